import Derived.Test.YthnphhgpfedeeaaGreatDoorCR51
namespace Go.Proofs.YthnphhgpfedeeaaGreatDoor
open Go.RowKit Tryz
open Int renaming natCast_ediv->an
open Lib renaming decDigits->ab
open List renaming not_mem_nil->ao,mem_cons->ba,length_append->bj,append_assoc->bt
open Nat renaming lt_of_le_of_lt->al,div_le_self->ar,mod_lt->bh
set_option linter.all false
set_option maxRecDepth 100000
set_option maxHeartbeats 2000000
set_option linter.all false
theorem BJ{x:Int}{n:Nat}(h:x=(n:Int)):Ending.returned (.int .u64 x)=.returned (.int .u64 (n:Int)):=by rw[h]
theorem jr{x:Int}{n:Nat}(h:x=(n:Int)):Ending.returned (.int .u32 x)=.returned (.int .u32 (n:Int)):=by rw[h]
theorem aiv(w:tW)(a b:Nat)(ha:a<18446744073709551616)(hb:b<18446744073709551616):Calls prog 13 #[.string ⟨#[97,100,100]⟩,.int .u64 a,.int .u64 b] w λe w'=>e=.returned (.int .u64 (ofP 0 a b 64))/\w'=w:=by go_enter func13,ntmps13;go_wp2_with fail;go_ret;exact⟨BJ (uk _),rfl⟩
theorem aiw(w:tW)(a b:Nat)(ha:a<18446744073709551616)(hb:b<18446744073709551616):Calls prog 13 #[.string ⟨#[115,117,98]⟩,.int .u64 a,.int .u64 b] w λe w'=>e=.returned (.int .u64 (ofP 1 a b 64))/\w'=w:=by go_enter func13,ntmps13;go_wp2_with fail;go_ret;exact⟨BJ (uk _),rfl⟩
theorem aix(w:tW)(a b:Nat)(ha:a<18446744073709551616)(hb:b<18446744073709551616):Calls prog 13 #[.string ⟨#[109,117,108]⟩,.int .u64 a,.int .u64 b] w λe w'=>e=.returned (.int .u64 (ofP 2 a b 64))/\w'=w:=by go_enter func13,ntmps13;go_wp2_with fail;go_ret;exact⟨BJ (uk _),rfl⟩
theorem aiy(w:tW)(a b:Nat)(ha:a<18446744073709551616)(hb:b<18446744073709551616):Calls prog 13 #[.string ⟨#[100,105,118]⟩,.int .u64 a,.int .u64 b] w λe w'=>e=.returned (.int .u64 (ofP 3 a b 64))/\w'=w:=by
 have H:af (IntKind.u64.wrap ((a:Int) /(b:Int))=((a/b:Nat):Int)):=by unfold af;have:a/b<=a:=ar a b;rw[show((a:Int) /(b:Int))=((a/b:Nat):Int)from(an a b).symm,uk,af5 _ (by omega)]
 clear ha hb;by_cases h0:b=0
 ·subst h0;go_enter func13,ntmps13;go_wp2_with fail;go_ret;exact⟨rfl,rfl⟩
 ·have h1:((b:Int)==0)=false:=by simp;omega
  have h2:¬(b:Int)=0:=by omega
  have HR:af (ofP 3 a b 64=a/b):=iN9 h0;clear h0;go_enter func13,ntmps13;go_wp2_with fail;go_ret;exact⟨BJ (by rw[HR.o];exact H.o),rfl⟩
theorem aiz(w:tW)(a b:Nat)(ha:a<18446744073709551616)(hb:b<18446744073709551616):Calls prog 13 #[.string ⟨#[109,111,100]⟩,.int .u64 a,.int .u64 b] w λe w'=>e=.returned (.int .u64 (ofP 4 a b 64))/\w'=w:=by
 clear ha hb;by_cases h0:b=0
 ·subst h0;go_enter func13,ntmps13;go_wp2_with fail;go_ret;exact⟨rfl,rfl⟩
 ·have h1:((b:Int)==0)=false:=by simp;omega
  have h2:¬(b:Int)=0:=by omega
  have HR:af (ofP 4 a b 64=a%b):=iN9 h0;clear h0;go_enter func13,ntmps13;go_wp2_with fail;go_ret;exact⟨BJ (by rw[HR.o];exact(Int.natCast_emod a b).symm),rfl⟩
theorem aiA(w:tW)(a b:Nat)(ha:a<18446744073709551616)(hb:b<18446744073709551616):Calls prog 13 #[.string ⟨#[97,110,100]⟩,.int .u64 a,.int .u64 b] w λe w'=>e=.returned (.int .u64 (ofP 5 a b 64))/\w'=w:=by have H:=ai (vD a b ha hb).1;go_enter func13,ntmps13;go_wp2_with fail;go_ret;exact⟨BJ H.o,rfl⟩
theorem aiB(w:tW)(a b:Nat)(ha:a<18446744073709551616)(hb:b<18446744073709551616):Calls prog 13 #[.string ⟨#[111,114]⟩,.int .u64 a,.int .u64 b] w λe w'=>e=.returned (.int .u64 (ofP 6 a b 64))/\w'=w:=by have H:=ai (vD a b ha hb).2.1;go_enter func13,ntmps13;go_wp2_with fail;go_ret;exact⟨BJ H.o,rfl⟩
theorem aiC(w:tW)(a b:Nat)(ha:a<18446744073709551616)(hb:b<18446744073709551616):Calls prog 13 #[.string ⟨#[120,111,114]⟩,.int .u64 a,.int .u64 b] w λe w'=>e=.returned (.int .u64 (ofP 7 a b 64))/\w'=w:=by have H:=ai (vD a b ha hb).2.2;go_enter func13,ntmps13;go_wp2_with fail;go_ret;exact⟨BJ H.o,rfl⟩
theorem aiD(w:tW)(a b:Nat)(ha:a<18446744073709551616)(hb:b<18446744073709551616):Calls prog 13 #[.string ⟨#[108,115,104]⟩,.int .u64 a,.int .u64 b] w λe w'=>e=.returned (.int .u64 (ofP 8 a b 64))/\w'=w:=by
 have hk:b%64<64:=by omega
 have HK:af (((b:Int)%64)=((b%64:Nat):Int)):=by unfold af;omega
 have HR:af (ofP 8 a b 64=iw ((a:Int)*2 ^ (b%64))):=rfl;clear ha hb;generalize ofP 8 a b 64=R at *;go_enter func13,ntmps13;have hkk:=HK.o;generalize b%64=k at *;go_wp2_with fail;go_ret;exact⟨BJ (by rw[HR.o];exact uk _),rfl⟩
theorem aiE(w:tW)(a b:Nat)(ha:a<18446744073709551616)(hb:b<18446744073709551616):Calls prog 13 #[.string ⟨#[114,115,104]⟩,.int .u64 a,.int .u64 b] w λe w'=>e=.returned (.int .u64 (ofP 9 a b 64))/\w'=w:=by
 have hk:b%64<64:=by omega
 have HK:af (((b:Int)%64)=((b%64:Nat):Int)):=by unfold af;omega
 have HR:af (((ofP 9 a b 64:Nat):Int)=(a:Int)/2 ^ (b%64)):=by
  unfold af;show((a/2 ^ (b%64):Nat):Int)=_
  rw[an,Int.natCast_pow];rfl
 clear ha hb;generalize ofP 9 a b 64=R at *;go_enter func13,ntmps13;have hkk:=HK.o;generalize b%64=k at *;go_wp2_with fail;go_ret;exact⟨BJ HR.o.symm,rfl⟩
theorem ahV(w:tW)(a b:Nat)(ha:a<18446744073709551616)(hb:b<18446744073709551616):Calls prog 13 #[.string ⟨#[97,115,104]⟩,.int .u64 a,.int .u64 b] w λe w'=>e=.returned (.int .u64 (ofP 10 a b 64))/\w'=w:=by
 have hk:b%64<64:=by omega
 have HK:af (((b:Int)%64)=((b%64:Nat):Int)):=by unfold af;omega
 have HR:af (ofP 10 a b 64=iw (RowKit.wrap64 (a:Int)/2 ^ (b%64))):=by rw[af,ag4];rfl
 clear ha hb;generalize ofP 10 a b 64=R at *;go_enter func13,ntmps13;have hkk:=HK.o;generalize b%64=k at *;go_wp2_with fail;go_ret;exact⟨BJ (by rw[HR.o];exact uk _),rfl⟩
set_option linter.all false
theorem Xb(x:Int):IntKind.u32.wrap x=((QB (iw x):Nat):Int):=by rw[IntKind.wrap_u32];unfold QB iw;omega
theorem agK{n:Nat}(h:n<4294967296):QB n=n:=Nat.mod_eq_of_lt h
theorem agr(a b:Nat)(ha:a<4294967296)(hb:b<4294967296):bits .and .u32 a b=((QB (a &&& b):Nat):Int)/\bits .or .u32 a b=((QB (a ||| b):Nat):Int)/\bits .xor .u32 a b=((QB (a ^^^ b):Nat):Int):=by
 have e:∀n:Nat,n<4294967296->(BitVec.ofInt 32 (n:Int)).toNat=n:=λn h=>by rw[BitVec.toNat_ofInt];omega
 have l:∀n:Nat,n<4294967296->IntKind.u32.wrap (n:Int)=(QB n:Nat):=λn h=>by rw[Xb,af5 n (by omega)]
 have h1:a &&& b<4294967296:=al Nat.and_le_left ha;have h2:a ||| b<4294967296:=Nat.or_lt_two_pow (n:=32) ha hb;have h3:a ^^^ b<4294967296:=Nat.xor_lt_two_pow (n:=32) ha hb;refine⟨?_,?_,?_⟩
 ·show IntKind.u32.wrap (((BitVec.ofInt 32 (a:Int)) &&& (BitVec.ofInt 32 (b:Int))).toNat:Int)=_
  rw[BitVec.toNat_and,e a ha,e b hb,l _ h1]
 ·show IntKind.u32.wrap (((BitVec.ofInt 32 (a:Int)) |||(BitVec.ofInt 32 (b:Int))).toNat:Int)=_
  rw[BitVec.toNat_or,e a ha,e b hb,l _ h2]
 ·show IntKind.u32.wrap (((BitVec.ofInt 32 (a:Int)) ^^^ (BitVec.ofInt 32 (b:Int))).toNat:Int)=_
  rw[BitVec.toNat_xor,e a ha,e b hb,l _ h3]
theorem aiF(w:tW)(a b:Nat)(ha:a<4294967296)(hb:b<4294967296):Calls prog 14 #[.string ⟨#[97,100,100]⟩,.int .u32 a,.int .u32 b] w λe w'=>e=.returned (.int .u32 (QB (ofP 0 a b 32)))/\w'=w:=by go_enter func14,ntmps14;go_wp2_with fail;go_ret;exact⟨jr (Xb _),rfl⟩
theorem aiG(w:tW)(a b:Nat)(ha:a<4294967296)(hb:b<4294967296):Calls prog 14 #[.string ⟨#[115,117,98]⟩,.int .u32 a,.int .u32 b] w λe w'=>e=.returned (.int .u32 (QB (ofP 1 a b 32)))/\w'=w:=by go_enter func14,ntmps14;go_wp2_with fail;go_ret;exact⟨jr (Xb _),rfl⟩
theorem aiH(w:tW)(a b:Nat)(ha:a<4294967296)(hb:b<4294967296):Calls prog 14 #[.string ⟨#[109,117,108]⟩,.int .u32 a,.int .u32 b] w λe w'=>e=.returned (.int .u32 (QB (ofP 2 a b 32)))/\w'=w:=by go_enter func14,ntmps14;go_wp2_with fail;go_ret;exact⟨jr (Xb _),rfl⟩
theorem aiI(w:tW)(a b:Nat)(ha:a<4294967296)(hb:b<4294967296):Calls prog 14 #[.string ⟨#[100,105,118]⟩,.int .u32 a,.int .u32 b] w λe w'=>e=.returned (.int .u32 (QB (ofP 3 a b 32)))/\w'=w:=by
 have H:af (IntKind.u32.wrap ((a:Int) /(b:Int))=((QB (a/b):Nat):Int)):=by unfold af;have:a/b<=a:=ar a b;rw[show((a:Int) /(b:Int))=((a/b:Nat):Int)from(an a b).symm,Xb,af5 _ (by omega)]
 clear ha hb;by_cases h0:b=0
 ·subst h0;go_enter func14,ntmps14;go_wp2_with fail;go_ret;exact⟨rfl,rfl⟩
 ·have h1:((b:Int)==0)=false:=by simp;omega
  have h2:¬(b:Int)=0:=by omega
  have HR:af (ofP 3 a b 32=a/b):=iN9 h0;clear h0;go_enter func14,ntmps14;go_wp2_with fail;go_ret;exact⟨jr (by rw[HR.o];exact H.o),rfl⟩
theorem aiJ(w:tW)(a b:Nat)(ha:a<4294967296)(hb:b<4294967296):Calls prog 14 #[.string ⟨#[109,111,100]⟩,.int .u32 a,.int .u32 b] w λe w'=>e=.returned (.int .u32 (QB (ofP 4 a b 32)))/\w'=w:=by
 by_cases h0:b=0
 ·subst h0;have HL:af (QB (ofP 4 a 0 32)=a):=agK ha;clear ha hb;go_enter func14,ntmps14;go_wp2_with fail;go_ret;exact⟨jr (by rw[HL.o]),rfl⟩
 ·have h1:((b:Int)==0)=false:=by simp;omega
  have h2:¬(b:Int)=0:=by omega
  have HR:af (QB (ofP 4 a b 32)=a%b):=by have e:ofP 4 a b 32=a%b:=iN9 h0;rw[af,e,agK (al (Nat.mod_le a b) ha)]
  clear h0 ha hb;go_enter func14,ntmps14;go_wp2_with fail;go_ret;exact⟨jr (by rw[HR.o];exact(Int.natCast_emod a b).symm),rfl⟩
theorem aiK(w:tW)(a b:Nat)(ha:a<4294967296)(hb:b<4294967296):Calls prog 14 #[.string ⟨#[97,110,100]⟩,.int .u32 a,.int .u32 b] w λe w'=>e=.returned (.int .u32 (QB (ofP 5 a b 32)))/\w'=w:=by have H:=ai (agr a b ha hb).1;go_enter func14,ntmps14;go_wp2_with fail;go_ret;exact⟨jr H.o,rfl⟩
theorem aiL(w:tW)(a b:Nat)(ha:a<4294967296)(hb:b<4294967296):Calls prog 14 #[.string ⟨#[111,114]⟩,.int .u32 a,.int .u32 b] w λe w'=>e=.returned (.int .u32 (QB (ofP 6 a b 32)))/\w'=w:=by have H:=ai (agr a b ha hb).2.1;go_enter func14,ntmps14;go_wp2_with fail;go_ret;exact⟨jr H.o,rfl⟩
theorem aiM(w:tW)(a b:Nat)(ha:a<4294967296)(hb:b<4294967296):Calls prog 14 #[.string ⟨#[120,111,114]⟩,.int .u32 a,.int .u32 b] w λe w'=>e=.returned (.int .u32 (QB (ofP 7 a b 32)))/\w'=w:=by have H:=ai (agr a b ha hb).2.2;go_enter func14,ntmps14;go_wp2_with fail;go_ret;exact⟨jr H.o,rfl⟩
theorem aiN(w:tW)(a b:Nat)(ha:a<4294967296)(hb:b<4294967296):Calls prog 14 #[.string ⟨#[108,115,104]⟩,.int .u32 a,.int .u32 b] w λe w'=>e=.returned (.int .u32 (QB (ofP 8 a b 32)))/\w'=w:=by
 have hk:b%32<64:=by omega
 have HK:af (((b:Int)%32)=((b%32:Nat):Int)):=by unfold af;omega
 have HR:af (QB (ofP 8 a b 32)=QB (iw ((a:Int)*2 ^ (b%32)))):=rfl;clear ha hb;generalize QB (ofP 8 a b 32)=R at *;go_enter func14,ntmps14;have hkk:=HK.o;generalize b%32=k at *;go_wp2_with fail;go_ret;exact⟨jr (by rw[HR.o];exact Xb _),rfl⟩
theorem aiO(w:tW)(a b:Nat)(ha:a<4294967296)(hb:b<4294967296):Calls prog 14 #[.string ⟨#[114,115,104]⟩,.int .u32 a,.int .u32 b] w λe w'=>e=.returned (.int .u32 (QB (ofP 9 a b 32)))/\w'=w:=by
 have hk:b%32<64:=by omega
 have HK:af (((b:Int)%32)=((b%32:Nat):Int)):=by unfold af;omega
 have HR:af (((QB (ofP 9 a b 32):Nat):Int)=(a:Int)/2 ^ (b%32)):=by unfold af;rw[show ofP 9 a b 32=a/2 ^ (b%32)from rfl,agK (al (ar _ _) ha),an,Int.natCast_pow];rfl
 clear ha hb;generalize QB (ofP 9 a b 32)=R at *;go_enter func14,ntmps14;have hkk:=HK.o;generalize b%32=k at *;go_wp2_with fail;go_ret;exact⟨jr HR.o.symm,rfl⟩
theorem ahW(w:tW)(a b:Nat)(ha:a<4294967296)(hb:b<4294967296):Calls prog 14 #[.string ⟨#[97,115,104]⟩,.int .u32 a,.int .u32 b] w λe w'=>e=.returned (.int .u32 (QB (ofP 10 a b 32)))/\w'=w:=by
 have hk:b%32<64:=by omega
 have HK:af (((b:Int)%32)=((b%32:Nat):Int)):=by unfold af;omega
 have HR:af (QB (ofP 10 a b 32)=QB (iw (RowKit.wrap32 (a:Int)/2 ^ (b%32)))):=by rw[af,ag3];unfold acB s64;rw[show RowKit.wrap64 ((iw ((a:Int)*4294967296):Nat):Int)/4294967296=RowKit.wrap32 (a:Int)from ?_];unfold RowKit.wrap32 RowKit.wrap64 iw;omega
 clear ha hb;generalize QB (ofP 10 a b 32)=R at *;go_enter func14,ntmps14;have hkk:=HK.o;generalize b%32=k at *;go_wp2_with fail;go_ret;exact⟨jr (by rw[HR.o,<-Xb,IntKind.wrap_u32]),rfl⟩
set_option linter.all false
theorem agl{j:Nat}(hj:j<11)(lo hi:Int):agm (kN j lo hi):=ags (by
 rcases eleven hj with rfl|rfl|rfl|rfl|rfl|rfl|rfl|rfl|rfl|rfl|rfl<;>kernel_rfl)
theorem ahy:agm ZZ:=ags (by decide +kernel)
theorem aho{j:Nat}(hj:j<11){lo hi:Int}(h1:-2147483648<=lo/\lo<=2147483647)(h2:-2147483648<=hi/\hi<=2147483647):qK (kN j lo hi) 0:=by
 refine I1 (by rcases eleven hj with rfl|rfl|rfl|rfl|rfl|rfl|rfl|rfl|rfl|rfl|rfl<;>kernel_rfl) (λf hf y hy=>?_);simp only[kN,ba,ao,or_false]at hf;have z:(-2147483648:Int)<=0/\(0:Int)<=2147483647:=by decide
 have z4:(-2147483648:Int)<=4/\(4:Int)<=2147483647:=by decide
 rcases hf with rfl|rfl
 ·simp only[rk1,ba,ao,or_false]at hy;rcases hy with rfl|rfl|rfl|rfl|rfl|rfl|rfl
  all_goals first|exact⟨h1,h2⟩|exact⟨z,z⟩|exact⟨z4,z⟩
 ·simp only[rk2,ba,ao,or_false]at hy;rcases hy with rfl|rfl|rfl|rfl|rfl|rfl|rfl|rfl|rfl|rfl
  all_goals first|exact⟨h1,h2⟩|exact⟨z,z⟩|exact⟨z4,z⟩
theorem ahp{w w6:tW}{j sb:Nat}{lo hi:Int}(hj:j<11)(h1:-2147483648<=lo/\lo<=2147483647)(h2:-2147483648<=hi/\hi<=2147483647)(i:tBA)(hi8:i.size<=1000)(Xy:tT w [] (kN j lo hi) sb w6):Calls prog 12 #[pt sb,.string ⟨#[102]⟩,.string i,.int .i64 99] w6 λe w7=>∃vL,e=.returned (.agg (mK (rkX j lo hi i).1 vL))/\(∃o k c,vL=.slice o k c)/\aa ae w w7 /\ ∀w8,aa ae w7 w8->Calls prog 12 #[pt sb,.string ⟨#[103]⟩,.string i,.int .i64 99] w8 λe w9=>∃vL,e=.returned (.agg (mK (rkY j lo hi i).1 vL))/\Sl w9 22 1 vL (rkY j lo hi i).1.log.length (Qy (rkY j lo hi i).1.log)/\aa ae w w9/\aa (λk=>k<w7.heap.size) w8 w9:=by
 obtain⟨bs,b,vF,vM,gs,mb,tv,wT,hB,hl,hm,hT,Vn,hk⟩:=Xy;have hco:=aho (j:=j) (lo:=lo) (hi:=hi) hj h1 h2;have e0:jB []=[]:=rfl;simp only[e0,List.length_nil]at Vn hk;have hne:¬(sb=b\/jc (MT vM mb 0) sb):=λh=>h.elim (λe=>by subst e;exact absurd (hB.ty.one Vn.blk.ty) (by decide)) (λh=>Vn.uo hB.ty (by decide) h);refine(Ch Vn sb hB hco (agn (agl hj lo hi)) (af4 (agl hj lo hi)) (by show 2<=1000;decide) [102] i (by omega) 99 (by decide)).mono ?_;rintro e w7 ⟨vL,a',rfl,hL,YZ,em,ev,hft,m7⟩;obtain⟨oL,cL,hv,_⟩:=hL.view;have XZ:aa ae w w7:=hm.step m7 (λk hk' e=>by have:=hk k (e.elim .inl (λh=>.inr (.inl h)));omega);refine⟨vL,rfl,⟨_,_,_,hv⟩,XZ,λw8 m8=>?_⟩;have hlen:(tL (kN j lo hi) [] [] [102] i 99).2.2.length=0:=by rw[<-YZ.maps.lm,em];have:=Vn.maps.lm;exact this
 refine(Ch (YZ.quiet m8) sb ((hB.ag m7 hne).ag m8 id) (by rw[hlen];exact hco) (agn (agl hj lo hi)) (af4 (agl hj lo hi)) (by show 2<=1000;decide) [103] i (by omega) 99 (by decide)).mono ?_;rintro e w9 ⟨vL2,a2,rfl,hL2,_,_,_,_,m9⟩;refine⟨vL2,rfl,hL2,(XZ.trans m8).step m9 (λk hk' e=>?_),m9.mono (λk _ e=>e.elim (λe=>by rw[e];exact YZ.blk.lt) (λh=>YZ.MS h))⟩;rcases e with e|e
 ·have:=hk k (.inl e);omega
 ·rcases hft k e with h|h
  ·have:=hk k (.inr (.inl h));omega
  ·have:=hm.size;omega
set_option linter.all false
theorem agZ(w:tW):Calls prog 8 #[] w λe w'=>e=.returned (.slice (some ⟨w.heap.size,0,none⟩) 11 11)/\w'=w.alloc (.cells (agF.map λl=>Value.string (T l)).toArray 9):=by have HW:af ((agF.map λl=>Value.string (T l)).toArray=#[.string ⟨#[97,100,100]⟩,.string ⟨#[115,117,98]⟩,.string ⟨#[109,117,108]⟩,.string ⟨#[100,105,118]⟩,.string ⟨#[109,111,100]⟩,.string ⟨#[97,110,100]⟩,.string ⟨#[111,114]⟩,.string ⟨#[120,111,114]⟩,.string ⟨#[108,115,104]⟩,.string ⟨#[114,115,104]⟩,.string ⟨#[97,115,104]⟩]):=rfl;rw[HW.o];clear HW;go_enter func8,ntmps8;go_wp2_with fail;go_ret;exact⟨rfl,rfl⟩
theorem ahb{j:Nat}(hj:j<11):(agF.map λl=>Value.string (T l)).toArray[j]?=some (.string (T (rkW j))):=by rcases eleven hj with rfl|rfl|rfl|rfl|rfl|rfl|rfl|rfl|rfl|rfl|rfl<;>rfl
theorem ahq{j:Nat}(hj:j<11)(w:tW)(a b:Nat)(ha:a<18446744073709551616)(hb:b<18446744073709551616):Calls prog 13 #[.string (T (rkW j)),.int .u64 a,.int .u64 b] w λe w'=>e=.returned (.int .u64 (ofP j a b 64))/\aa ae w w':=by
 have key:Calls prog 13 #[.string (T (rkW j)),.int .u64 a,.int .u64 b] w λe w'=>e=.returned (.int .u64 (ofP j a b 64))/\w'=w:=by
  rcases eleven hj with rfl|rfl|rfl|rfl|rfl|rfl|rfl|rfl|rfl|rfl|rfl
  ·exact aiv w a b ha hb
  ·exact aiw w a b ha hb
  ·exact aix w a b ha hb
  ·exact aiy w a b ha hb
  ·exact aiz w a b ha hb
  ·exact aiA w a b ha hb
  ·exact aiB w a b ha hb
  ·exact aiC w a b ha hb
  ·exact aiD w a b ha hb
  ·exact aiE w a b ha hb
  ·exact ahV w a b ha hb
 exact key.mono λe w' h=>⟨h.1,h.2 ▸ ax⟩
theorem ahr{j:Nat}(hj:j<11)(w:tW)(a b:Nat)(ha:a<4294967296)(hb:b<4294967296):Calls prog 14 #[.string (T (rkW j)),.int .u32 a,.int .u32 b] w λe w'=>e=.returned (.int .u32 (QB (ofP j a b 32)))/\aa ae w w':=by
 have key:Calls prog 14 #[.string (T (rkW j)),.int .u32 a,.int .u32 b] w λe w'=>e=.returned (.int .u32 (QB (ofP j a b 32)))/\w'=w:=by
  rcases eleven hj with rfl|rfl|rfl|rfl|rfl|rfl|rfl|rfl|rfl|rfl|rfl
  ·exact aiF w a b ha hb
  ·exact aiG w a b ha hb
  ·exact aiH w a b ha hb
  ·exact aiI w a b ha hb
  ·exact aiJ w a b ha hb
  ·exact aiK w a b ha hb
  ·exact aiL w a b ha hb
  ·exact aiM w a b ha hb
  ·exact aiN w a b ha hb
  ·exact aiO w a b ha hb
  ·exact ahW w a b ha hb
 exact key.mono λe w' h=>⟨h.1,h.2 ▸ ax⟩
def rp1:tLB:=[102,117,110,99,32,102,10,119,105,100,101,32,114,51,44,32]
def rp2:tLB:=[10,108,100,56,32,114,52,44,32,91,114,49,93,10,109,111,118,32,114,53,44,32,114,51,10]
def rp3:tLB:=[32,114,51,44,32,114,52,10]
def rp4:tLB:=[51,50,32,114,53,44,32,114,52,10,104,101,108,112,32,108,111,103,10,101,120,105,116]
def rq1:tLB:=[102,117,110,99,32,103,10,119,105,100,101,32,114,54,44,32]
def rq2:tLB:=[10,108,100,56,32,114,52,44,32,91,114,49,93,10,109,111,118,32,114,55,44,32,114,54,10]
def rq3:tLB:=[32,114,54,44,32,114,52,10]
def rq4:tLB:=([51,50,32,114,55,44,32,114,52,10,109,111,118,32,114,49,44,32,114,54,10,104,101,108,112,32,108,111,103,10,109,111,118,32,114,49,44,32,114,55,10,104,101,108,112,32,108,111,103,10,101,120,105,116])
theorem ahz{j:Nat}(hj:j<11)(a:Nat):rp1++(ab a++(rp2++(rkW j++(rp3++(rkW j++rp4)))))=rkT af7 3 a (af9 j):=by rcases eleven hj with rfl|rfl|rfl|rfl|rfl|rfl|rfl|rfl|rfl|rfl|rfl<;>kernel_rfl
theorem ahA{j:Nat}(hj:j<11)(a:Nat):rq1++(ab a++(rq2++(rkW j++(rq3++(rkW j++rq4)))))=rkT af8 6 a (aga j):=by rcases eleven hj with rfl|rfl|rfl|rfl|rfl|rfl|rfl|rfl|rfl|rfl|rfl<;>kernel_rfl
theorem aiP{j:Nat}(hj:j<11)(a:Nat):T rp1++T (ab a)++T rp2++T (rkW j)++T rp3++T (rkW j)++T rp4=T (rkT af7 3 a (af9 j)):=by rw[rF,rF,rF,rF,rF,rF,<-ahz hj a];simp only[bt]
theorem aiQ{j:Nat}(hj:j<11)(a:Nat):T rq1++T (ab a)++T rq2++T (rkW j)++T rq3++T (rkW j)++T rq4=T (rkT af8 6 a (aga j)):=by rw[rF,rF,rF,rF,rF,rF,<-ahA hj a];simp only[bt]
theorem agM{j:Nat}(hj:j<11):(rkW j).length<=3:=by rcases eleven hj with rfl|rfl|rfl|rfl|rfl|rfl|rfl|rfl|rfl|rfl|rfl<;>decide
theorem ahX{j:Nat}(hj:j<11){a:Nat}(ha:a<18446744073709551616):¬4000<(rkT af7 3 a (af9 j)).length/\¬4000<(rkT af8 6 a (aga j)).length:=by
 have h1:(ab a).length<=20:=uu ha;have h2:=agM hj;rw[<-ahz hj a,<-ahA hj a];simp only[bj];have e1:rp1.length+rp2.length+rp3.length+rp4.length<=1000:=by decide
 have e2:rq1.length+rq2.length+rq3.length+rq4.length<=1000:=by decide +kernel
 omega
theorem ahs{j:Nat}(hj:j<11)(lo hi:Int):(oI [] [rk1 j lo hi]).length<=1000/\(oI [] [rk2 j lo hi]).length<=1000/\(ib 2 [] (kN j lo hi)).length<=1000:=by
 have e1:(oI [] [rk1 j lo hi]).length=77:=by rcases eleven hj with rfl|rfl|rfl|rfl|rfl|rfl|rfl|rfl|rfl|rfl|rfl<;>kernel_rfl
 have e2:(oI [] [rk2 j lo hi]).length=101:=by rcases eleven hj with rfl|rfl|rfl|rfl|rfl|rfl|rfl|rfl|rfl|rfl|rfl<;>kernel_rfl
 have e3:(ib 2 [] (kN j lo hi)).length=167:=by rcases eleven hj with rfl|rfl|rfl|rfl|rfl|rfl|rfl|rfl|rfl|rfl|rfl<;>kernel_rfl
 omega
theorem aht{j:Nat}(hj:j<11)(lo hi:Int):I4 [] (kN j lo hi)=true:=by rcases eleven hj with rfl|rfl|rfl|rfl|rfl|rfl|rfl|rfl|rfl|rfl|rfl<;>kernel_rfl
theorem agN{a b c d:tLB}{P:tLB->tLB->Prop}(h1:P a c)(h2:P b d):∀k (h:k<[a,b].length) (h':k<[c,d].length),P [a,b][k] [c,d][k]:=λk h h'=>by
 have:k=0\/k=1:=by simp at h;omega
 rcases this with rfl|rfl
 ·exact h1
 ·exact h2
theorem ahc(w:tW)(hW:sV w)(hE:Env w)(hM:mE w)(t1 t2 o1 o2 i:tLB)(ms:List az)(fs:List aS)(hT1:Ir t1)(hT2:Ir t2)(hA1:∀s c n,tI t1 s c n->s=T o1/\c=0)(hA2:∀s c n,tI t2 s c n->s=T o2/\c=0)(hL:∀s e a,iD [o1,o2] s e a->s=T i/\e=0)(ho1:o1.length<=maxLen)(ho2:o2.length<=maxLen)(hi:i.length<=maxLen)(hD:dP i=(ms,fs,⟨[],false⟩))(hz:I4 ms fs=true)(hq:∀q∈decsP [o1,o2],nI q/\q.1=[])(w1:tW)(m:aa ae w w1):Calls prog 10 #[.slice (some ⟨w1.heap.size,0,none⟩) 2 2] (w1.alloc (.cells #[.string (T t1),.string (T t2)] 9)) λe w'=>∃sb,e=.returned (pt sb)/\tT w ms fs sb w':=by
 have m0:aa ae w (w1.alloc (.cells #[.string (T t1),.string (T t2)] 9)):=m.alloc _;refine(Jb (w1.alloc (.cells #[.string (T t1),.string (T t2)] 9)) (hW.ag m0) (hE.ag m0) (hM.ag m0) (some ⟨w1.heap.size,0,none⟩) 2 [t1,t2] [o1,o2] i ms fs rfl (by show 2<=8;decide) (λ_=>⟨w1.heap.size,0,rfl,λk h=>?_⟩) (λk h=>agN (c:=t1) (d:=t2) (P:=λa _=>Ir a) hT1 hT2 k h h) (agN (P:=λa b=>∀s c n,tI a s c n->s=T b/\c=0) hA1 hA2) hL (λs hs=>?_) hi hD hz hq).mono λe w' ⟨sb,h1,h2⟩=>⟨sb,h1,h2.wide m0⟩
 ·have:k=0\/k=1:=by simp at h;omega
  rcases this with rfl|rfl
  ·exact(ak.new w1 _ _).cell 0
  ·exact(ak.new w1 _ _).cell 1
 ·simp only[ba,ao,or_false]at hs;rcases hs with rfl|rfl
  ·exact ho1
  ·exact ho2
theorem ahu{j:Nat}(hj:j<11)(lo hi:Int):∀q∈[(([]:List az),[rk1 j lo hi]),([],[rk2 j lo hi])],nI q/\q.1=[]:=by rcases eleven hj with rfl|rfl|rfl|rfl|rfl|rfl|rfl|rfl|rfl|rfl|rfl<;>exact BN (by kernel_rfl)
theorem ahd{j:Nat}(hj:j<11){lo hi:Int}(h1:-2147483648<=lo/\lo<=2147483647)(h2:-2147483648<=hi/\hi<=2147483647):∀q∈decsP (rkO j lo hi),nI q/\q.1=[]:=by rw[agL hj h1 h2];exact ahu hj lo hi
theorem agO{f:tLB}{d a:Nat}{s:List tLB}{F:aS}(hd:d<10)(ha:a<18446744073709551616)(hs:agG (f::s)=true)(hb:behindF false (af0 f d a s)=true)(hl:¬4000<(rkT f d a s).length)(h0:(firstP (ah (af0 f d a s)) (af0 f d a s) {} 0).1=0)(hB:(rkB f d a s).ms=[]/\(rkB f d a s).fs=[F]):∀t c k,tI (rkT f d a s) t c k->t=T (oI [] [F])/\c=0:=@ahQ f d a s F hd ha hs hb hl h0 hB
theorem ahe{j:Nat}(hj:j<11){lo hi:Int}(h1:-2147483648<=lo/\lo<=2147483647)(h2:-2147483648<=hi/\hi<=2147483647):∀s e a,iD (rkO j lo hi) s e a->s=T (ib 2 [] (kN j lo hi))/\e=0:=@ahm j hj lo hi h1 h2
theorem agx{n:Nat}(h:n<=1000):n<=maxLen:=Nat.le_trans h (by decide)
theorem ahv{w:tW}{j a:Nat}(hj:j<11)(ha:a<18446744073709551616)(w1:tW)(m:aa ae w w1)(hW:sV w)(hE:Env w)(hM:mE w):Calls prog 10 #[.slice (some ⟨w1.heap.size,0,none⟩) 2 2] (w1.alloc (.cells #[.string (T (rkT af7 3 a (af9 j))),.string (T (rkT af8 6 a (aga j)))] 9)) λe w'=>∃sb,e=.returned (pt sb)/\tT w [] (kN j (loA a) (hiA a)) sb w':=by obtain⟨l1,l2,_⟩:=af6 a ha;obtain⟨n1,n2⟩:=ahX hj ha;obtain⟨k1,k2,k3,k4⟩:=ahP ⟨j,hj⟩;obtain⟨b1,f1⟩:=agU hj a;obtain⟨b2,f2⟩:=agV hj a;obtain⟨o1,o2,o3⟩:=ahs hj (loA a) (hiA a);exact ahc w hW hE hM (rkT af7 3 a (af9 j)) (rkT af8 6 a (aga j)) (oI [] [rk1 j (loA a) (hiA a)]) (oI [] [rk2 j (loA a) (hiA a)]) (ib 2 [] (kN j (loA a) (hiA a))) [] (kN j (loA a) (hiA a)) (ag7 (by decide) ha k1 b1 n1 f1 k3) (ag7 (by decide) ha k2 b2 n2 f2 k4) (agO (by decide) ha k1 b1 n1 f1 (ah7 hj a)) (agO (by decide) ha k2 b2 n2 f2 (ah8 hj a)) (ahe hj l1 l2) (agx o1) (agx o2) (agx o3) (ahS hj l1 l2) (aht hj _ _) (ahd hj l1 l2) w1 m
def inB(b k:Nat):UInt8:=UInt8.ofNat (b/256 ^ k%256)
def inP(b:Nat):Nat->tLB
 |0=>[]
 |k+1=>inP b k++[inB b k]
theorem aiR(b:Nat):T (inP b 8)=agH (inB b 0) (inB b 1) (inB b 2) (inB b 3) (inB b 4) (inB b 5) (inB b 6) (inB b 7):=rfl
theorem aiS{b:Nat}(hb:b<18446744073709551616):leN (ahn (inB b 0) (inB b 1) (inB b 2) (inB b 3) (inB b 4) (inB b 5) (inB b 6) (inB b 7))=b:=by
 have e:∀k,(inB b k).toNat=b/256 ^ k%256:=λk=>by unfold inB;rw[UInt8.toNat_ofNat'];exact Nat.mod_eq_of_lt (bh _ (by decide))
 unfold ahn;simp only[leN,e];simp only[Nat.reducePow];omega
set_option linter.all false
theorem tT.later{w w1 w':tW}{ms:List az}{fs:List aS}{sb:Nat}(h:tT w ms fs sb w1)(m:aa ae w1 w'):tT w ms fs sb w':=by obtain⟨bs,b,vF,vM,gs,mb,tv,wT,hB,hl,hm,hT,hM,hk⟩:=h;exact⟨bs,b,vF,vM,gs,mb,tv,wT,hB.ag m id,hl,hm.trans m,hT,hM.quiet m,hk⟩
theorem ahY{j a b:Nat}(hj:j<11)(ha:a<18446744073709551616)(hb:b<18446744073709551616):((rkX j (loA a) (hiA a) (T (inP b 8))).1.trap=2/\(rkX j (loA a) (hiA a) (T (inP b 8))).1.fn=[102]/\(rkX j (loA a) (hiA a) (T (inP b 8))).1.slot=6)/\(rkY j (loA a) (hiA a) (T (inP b 8))).1.trap=0/\(rkY j (loA a) (hiA a) (T (inP b 8))).1.r0=0/\(rkY j (loA a) (hiA a) (T (inP b 8))).1.log=[ofP j a b 64,QB (ofP j (QB a) (QB b) 32)]:=by obtain⟨_,_,e⟩:=af6 a ha;rw[aiR];obtain⟨y1,y2,y3⟩:=aiq hj (loA a) (hiA a) (inB b 0) (inB b 1) (inB b 2) (inB b 3) (inB b 4) (inB b 5) (inB b 6) (inB b 7);rw[e,aiS hb]at y3;exact⟨aip hj _ _ _ _ _ _ _ _ _ _,y1,y2,y3⟩
theorem agy(b:Nat):∀k,(inP b k).length=k
 |0=>rfl
 |k+1=>by rw[inP,bj,agy b k];rfl
theorem ahf(b k:Nat):T (inP b k)++strOf [b/256 ^ k%256]=T (inP b (k+1)):=by rw[inP,<-rF];rfl
theorem ahg(b k:Nat):b/256 ^ k/256=b/256 ^ (k+1):=by rw[Nat.div_div_eq_div_mul,Nat.pow_succ]
theorem aha(w:tW)(hW:sV w)(hE:Env w)(hM:mE w)(a b:Nat)(which:Int)(ha:a<18446744073709551616)(hb:b<18446744073709551616)(c0:-9223372036854775808<=which)(c1:which<=9223372036854775807):Calls prog 3 #[.int .u64 a,.int .u64 b,.int .i64 which] w λe w'=>e=.returned (.bool true)/\aa ae w w':=by
 have hj:=Jc which 11 (by decide);have HAW:=ai (Q6 w hW hE hM (agn ahy) (af4 ahy));have qQ:af (∀w',Calls prog 9 #[.int .i64 which,.int .i64 11] w' λe w''=>e=.returned (.int .i64 (py which 11))/\w''=w'):=λw'=>Eg w' which 11 c0 c1 (by decide) (by decide);generalize py which 11=j at *;have HD1:af (∀w',Calls prog 11 #[.int .u64 a] w' λe w''=>e=.returned (.string (T (ab a)))/\aa ae w' w''):=λw'=>Nb a w' ha;have hs1:(T (ab a)).size<=20:=by rw[bG];exact uu ha
 have hs2:(T (rkW j)).size<=3:=by rw[bG];exact agM hj
 have HT1:=ai (aiP hj a);have HT2:=ai (aiQ hj a);have Ct:af (∀w1,aa ae w w1->Calls prog 10 #[.slice (some ⟨w1.heap.size,0,none⟩) 2 2] (w1.alloc (.cells #[.string (T (rkT af7 3 a (af9 j))),.string (T (rkT af8 6 a (aga j)))] 9)) λe w'=>∃sb,e=.returned (pt sb)/\tT w [] (kN j (loA a) (hiA a)) sb w'):=λw1 m=>ahv hj ha w1 m hW hE hM;have HRU:af (∀sb w6,tT w [] (kN j (loA a) (hiA a)) sb w6->_):=λsb w6 h=>ahp hj (af6 a ha).1 (af6 a ha).2.1 (T (inP b 8)) (by rw[bG,agy];decide) h;have HAL:=ai (ahY hj ha hb);have H64:af (∀w',Calls prog 13 #[.string (T (rkW j)),.int .u64 a,.int .u64 b] w' λe w''=>e=.returned (.int .u64 (ofP j a b 64))/\aa ae w' w''):=λw'=>ahq hj w' a b ha hb;have H32:af (∀w',Calls prog 14 #[.string (T (rkW j)),.int .u32 ((a:Int)%4294967296),.int .u32 ((b:Int)%4294967296)] w' λe w''=>e=.returned (.int .u32 (QB (ofP j (QB a) (QB b) 32)))/\aa ae w' w''):=λw'=>ahr hj w' (QB a) (QB b) (bh _ (by decide)) (bh _ (by decide));have hlow:QB (ofP j (QB a) (QB b) 32)<4294967296:=bh _ (by decide);have HWC:=ai (ahb hj);have hc1:(T rp1).size=16:=by kernel_rfl
 have hc2:(T rp2).size=25:=by kernel_rfl
 have hc3:(T rp3).size=8:=by kernel_rfl
 have hc4:(T rp4).size=23:=by kernel_rfl
 have hd1:(T rq1).size=16:=by kernel_rfl
 have hd2:(T rq2).size=25:=by kernel_rfl
 have hd3:(T rq3).size=8:=by kernel_rfl
 have hd4:(T rq4).size=54:=by kernel_rfl
 have ahB:af ((⟨#[102,117,110,99,32,102,10,119,105,100,101,32,114,51,44,32]⟩:tBA)=T rp1):=rfl;have ahC:af ((⟨#[10,108,100,56,32,114,52,44,32,91,114,49,93,10,109,111,118,32,114,53,44,32,114,51,10]⟩:tBA)=T rp2):=rfl;have ahD:af ((⟨#[32,114,51,44,32,114,52,10]⟩:tBA)=T rp3):=rfl;have ahE:af ((⟨#[51,50,32,114,53,44,32,114,52,10,104,101,108,112,32,108,111,103,10,101,120,105,116]⟩:tBA)=T rp4):=rfl;have ahF:af ((⟨#[102,117,110,99,32,103,10,119,105,100,101,32,114,54,44,32]⟩:tBA)=T rq1):=rfl;have ahG:af ((⟨#[10,108,100,56,32,114,52,44,32,91,114,49,93,10,109,111,118,32,114,55,44,32,114,54,10]⟩:tBA)=T rq2):=rfl;have ahH:af ((⟨#[32,114,54,44,32,114,52,10]⟩:tBA)=T rq3):=rfl;have ahI:af ((⟨[51,50,32,114,55,44,32,114,52,10,109,111,118,32,114,49,44,32,114,54,10,104,101,108,112,32,108,111,103,10,109,111,118,32,114,49,44,32,114,55,10,104,101,108,112,32,108,111,103,10,101,120,105,116].toArray⟩:tBA)=T rq4):=rfl;clear hW hE hM c0 c1;go_enter func3,ntmps3;go_wp2_with fail;refine HAW.o.mono ?_;rintro e w1 ⟨rfl,m1⟩;have dh:=ai m1;clear m1 HAW;go_wp2_with fail;refine(agZ _).mono ?_;rintro e w2 ⟨rfl,rfl⟩;have y0:(w1.alloc (.cells (agF.map λl=>Value.string (T l)).toArray 9)).cell? ⟨w1.heap.size,j,none⟩=some (.string (T (rkW j))):=by rw[(ak.new w1 _ _).cell j];exact HWC.o
 have dD:af (aa ae w (w1.alloc (.cells (agF.map λl=>Value.string (T l)).toArray 9))):=dh.o.alloc _;clear dh HWC;generalize w1.alloc (.cells (agF.map λl=>Value.string (T l)).toArray 9)=w2 at *;generalize w1.heap.size=g1 at *;go_wp2_with fail;refine(qQ.o _).mono ?_;rintro e w3 ⟨rfl,rfl⟩;clear qQ;go_wp2_with fail;refine(HD1.o _).mono ?_;rintro e w4 ⟨rfl,m4⟩;have fU:=ai (dD.o.trans m4);clear m4 dD;go_wp2_with (first|rw[ahB.o]|rw[ahC.o]|rw[ahD.o]|rw[ahE.o]);refine(HD1.o _).mono ?_;rintro e w5 ⟨rfl,m5⟩;have iC:=ai (fU.o.trans m5);clear m5 fU HD1;go_wp2_with (first|rw[ahF.o]|rw[ahG.o]|rw[ahH.o]|rw[ahI.o]);rw[HT1.o,HT2.o];refine(Ct.o w5 iC.o).mono ?_;rintro e w6 ⟨sb,rfl,Xy⟩;have nP:=ai Xy;clear Xy Ct iC HT1 HT2 ahB ahC ahD ahE ahF ahG ahH ahI hc1 hc2 hc3 hc4 hd1 hd2 hd3 hd4 y0;generalize T (rkT af7 3 a (af9 j))=tx1 at *;generalize T (rkT af8 6 a (aga j))=tx2 at *;generalize T (ab a)=da at *;generalize T (rkW j)=sw at *;go_upto_block 0 with fail;go_wp2_with fail;go_loopw [10,11,12] (λv10 v11 v12 wl=>∃k:Nat,k<=8/\v12=.int .i64 k/\v10=.string (T (inP b k))/\v11=.int .u64 ((b/256 ^ k:Nat):Int)/\aa ae w6 wl) (λv10 v11 v12 _=>8-(intOf v12).toNat)
 case atStart=>exact⟨0,Nat.zero_le _,rfl,rfl,by rw[Nat.pow_zero,Nat.div_one],ax⟩
 case round =>
  obtain⟨k,hk,rfl,rfl,rfl,mk⟩:=hrel;have qV:=ai mk;clear mk;by_cases hlt:k<8
  ·have hsz:(T (inP b k)).size<=8:=by rw[bG,agy];exact hk
   have HST:=ai (ahf b k);have Zx:=ai (ahg b k);have hx:b/256 ^ k<18446744073709551616:=al (ar _ _) hb;clear nP HRU HAL H64 H32;generalize T (inP b k)=sk at *;generalize b/256 ^ k=xk at *;have hcast:((xk%256:Nat):Int)=(xk:Int)%256:=by omega
   have Fs:=ai (Vz wr (xk%256) (by omega));have hss:(strOf [xk%256]).size=1:=rfl;generalize strOf [xk%256]=sd at *;have ZK:af (aa ae w6 (wr.alloc (.cells #[.int .u8 ((xk%256:Nat):Int)] 5))):=qV.o.alloc _;rw[hcast]at Fs ZK;go_wp2_with (rw[Fs.o]);go_roundw
   case rel =>
    refine⟨k+1,hlt,by go_num,?_,?_,ZK.o⟩
    ·rw[<-HST.o]
    ·rw[<-Zx.o];rfl
   case measure=>simp[intOf];omega
  ·obtain rfl:k=8:=by omega
   clear hk hlt;have Wg:=ai (HRU.o sb wr (nP.o.later qV.o));clear nP HRU qV;generalize T (inP b 8)=inp at *;generalize QB (ofP j (QB a) (QB b) 32)=A32 at *;generalize ofP j a b 64=A64 at *;generalize b/256 ^ 8=xl at *;generalize(rkX j (loA a) (hiA a) inp).1=r1 at *;generalize(rkY j (loA a) (hiA a) inp).1=r2 at *;go_wp2_with fail;refine Wg.o.mono ?_;rintro e w7 ⟨vL,rfl,⟨oL,kL,cL,rfl⟩,XZ,hnext⟩;have Q8:=ai (hnext (w7.alloc (.cells (mK r1 (.slice oL kL cL)) 34)) aj);have Kh:af (ak (w7.alloc (.cells (mK r1 (.slice oL kL cL)) 34)) w7.heap.size (mK r1 (.slice oL kL cL)) 34):=ak.new w7 _ _;clear XZ hnext Wg;unfold mK at Q8 Kh ⊢;go_wp2_with fail;refine Q8.o.mono ?_;rintro e w9 ⟨vL2,rfl,hSl,hM9,m9⟩;have Wd:=ai (Kh.o.ag m9 (Nat.lt_irrefl _));obtain⟨⟨q0,q1,q2⟩,q3,q4,q5⟩:=HAL.o;have ahw:Sl w9 22 1 vL2 2 (Qy [A64,A32]):=by rw[q5]at hSl;exact hSl
   obtain⟨oL2,cL2,rfl,_⟩:=ahw.view;obtain⟨gL,rfl,hrow⟩:=ahw.at rfl 0 (by decide);have adn:af (aa ae w (w9.alloc (.cells #[.int .i64 r2.trap,.string (T r2.fn),.int .i64 r2.slot,.int .u64 r2.r0,.string (strOf r2.inp),.slice (some ⟨gL,0,none⟩) 2 cL2,.int .i64 r2.used] 34))):=hM9.alloc _;have HBz:af (ak (w9.alloc (.cells #[.int .i64 r2.trap,.string (T r2.fn),.int .i64 r2.slot,.int .u64 r2.r0,.string (strOf r2.inp),.slice (some ⟨gL,0,none⟩) 2 cL2,.int .i64 r2.used] 34)) w9.heap.size #[.int .i64 r2.trap,.string (T r2.fn),.int .i64 r2.slot,.int .u64 r2.r0,.string (strOf r2.inp),.slice (some ⟨gL,0,none⟩) 2 cL2,.int .i64 r2.used] 34):=ak.new w9 _ _;have m10:aa ae w9 (w9.alloc (.cells #[.int .i64 r2.trap,.string (T r2.fn),.int .i64 r2.slot,.int .u64 r2.r0,.string (strOf r2.inp),.slice (some ⟨gL,0,none⟩) 2 cL2,.int .i64 r2.used] 34)):=aj;have aiT:=ai (ahw.ag m10 (λ_ _ e=>e));have CU:=ai (Wd.o.ag m10 id);have aiU:=ai (And.intro (And.intro q0 (And.intro q1 q2)) (And.intro q3 q4));clear m9 m10 hM9 Kh Wd Q8 HAL q0 q1 q2 q3 q4 q5 hrow hSl ahw;go_upto_region 15 with fail;generalize w9.alloc (.cells #[.int .i64 r2.trap,.string (T r2.fn),.int .i64 r2.slot,.int .u64 r2.r0,.string (strOf r2.inp),.slice (some ⟨gL,0,none⟩) 2 cL2,.int .i64 r2.used] 34)=W at *;obtain⟨⟨q0,q1,q2⟩,q3,q4⟩:=aiU.o;have y0:∀g:Ext ae W,g.w.cell? ⟨w7.heap.size,0,none⟩=some (.int .i64 2):=λg=>by rw[g.cell CU.o id 0,q0];rfl
   have y1:∀g:Ext ae W,g.w.cell? ⟨w7.heap.size,1,none⟩=some (.string ⟨#[102]⟩):=λg=>by rw[g.cell CU.o id 1,q1];rfl
   have y2:∀g:Ext ae W,g.w.cell? ⟨w7.heap.size,2,none⟩=some (.int .i64 6):=λg=>by rw[g.cell CU.o id 2,q2];rfl
   have z0:∀g:Ext ae W,g.w.cell? ⟨w9.heap.size,0,none⟩=some (.int .i64 0):=λg=>by rw[g.cell HBz.o id 0,q3];rfl
   have z3:∀g:Ext ae W,g.w.cell? ⟨w9.heap.size,3,none⟩=some (.int .u64 0):=λg=>by rw[g.cell HBz.o id 3,q4];rfl
   have z5:∀g:Ext ae W,g.w.cell? ⟨w9.heap.size,5,none⟩=some (.slice (some ⟨gL,0,none⟩) 2 cL2):=λg=>by rw[g.cell HBz.o id 5];rfl
   have zl:∀g:Ext ae W,∀k,k<2->g.w.cell? ⟨gL,k,none⟩=(Qy [A64,A32])[k]?:=λg k hk=>by obtain⟨gx,e,h⟩:=Sl.at (aiT.o.ag g.m (λ_ _ e=>e)) rfl k hk;injection e with e;injection e with e;rw[e];exact h k hk
   have l0:∀g:Ext ae W,g.w.cell? ⟨gL,0,none⟩=some (.int .u64 A64):=λg=>zl g 0 (by decide);have l1:∀g:Ext ae W,g.w.cell? ⟨gL,1,none⟩=some (.int .u64 A32):=λg=>zl g 1 (by decide);clear zl CU HBz aiT aiU q0 q1 q2 q3 q4;generalize w7.heap.size=g10 at *;generalize w9.heap.size=g11 at *;have ne1:=Ext.ne ae W;refine gm ae (by kernel_rfl) (by kernel_rfl) ?_
   repeat(go_big_quiet_step (first |(go_at_call 13;exact Calls.nu (H64.o _)) |(go_at_call 14;exact Calls.nu (H32.o _))))
   refine wpQuiet_nil ?_;rintro w2 ⟨⟨wx,m2⟩,hwx⟩;simp only at hwx;subst hwx;have aji:=ai (adn.o.trans m2);clear m2 adn H64 H32 y0 y1 y2 z0 z3 z5 l0 l1 ne1;go_wp2_with fail;go_ret;exact⟨rfl,aji.o⟩
