import Derived.Test.YtmajaohgiilelaaGreatDoorC05
import Derived.Deep.DeepCutAuto
import Derived.Deep.CutBlock
namespace Go.Proofs.YtmajaohgiilelaaGreatDoor
open Go.RowKit Tryz
open Nat renaming mod_eq_of_lt->an,le_of_eq->ao
set_option linter.all false
set_option maxRecDepth 100000
set_option maxHeartbeats 1000000
def iV(s:tBA)(k:Nat):Int:=if h:k<s.size then((s[k]'h).toNat:Int)else -1
def gp(s:tBA)(base:Int)(k:Nat):Int:=if h:k<s.size then xN ((s[k]'h).toNat:Int) base else -1
def ah4(s:tBA)(base:Nat):Nat->Nat->Nat->Nat×Nat
 |0,k,v=>(v,k)
 |f+1,k,v=>if 0<=gp s base k then ah4 s base f (k+1) (v*base+(gp s base k).toNat)else(v,k)
def numSign(s:tBA)(i:Nat):Bool:=decide (iV s i=45)
def fQ(s:tBA)(k:Nat):Bool:=decide (k+2<s.size)&&decide (iV s k=48)&&decide (iV s (k+1)=120)&&decide (0<=gp s 16 (k+2))
def dh(s:tBA)(i:Nat):Nat:=if numSign s i then i+1 else i
def dw(s:tBA)(i:Nat):Nat:=if fQ s (dh s i)then dh s i+2 else dh s i
def iD(s:tBA)(i:Nat):Nat:=if fQ s (dh s i)then 16 else 10
def oJ(s:tBA)(i:Nat):Nat×Nat:=ah4 s (iD s i) (s.size-dw s i) (dw s i) 0
def fE(s:tBA)(i:Nat):aA×Nat:=(⟨(oJ s i).1,numSign s i⟩,if(oJ s i).2=dw s i then 0 else(oJ s i).2-i)
theorem UR(s:tBA)(base:Int)(k:Nat):-1<=gp s base k/\gp s base k<=15/\(base=10->gp s base k<=9):=by
 unfold gp xN;split
 ·(repeat' split)<;>omega
 ·omega
theorem Kg(v base d:Nat)(hb:base=10\/base=16)(hd:d<=15):(decide (18446744073709551616<=v*base+d)=(decide (18446744073709551616<=v)||decide ((18446744073709551615-d)/base<v%18446744073709551616))) /\ (v*base+d)%18446744073709551616=(v%18446744073709551616*base+d)%18446744073709551616:=by
 constructor
 ·rw[Bool.eq_iff_iff];simp only[Bool.or_eq_true,decide_eq_true_eq];rcases hb with rfl|rfl
  ·constructor
   ·intro h;by_cases hv:18446744073709551616<=v
    ·exact .inl hv
    ·right;rw[an (by omega)];omega
   ·rintro(h|h)
    ·omega
    ·by_cases hv:18446744073709551616<=v
     ·omega
     ·rw[an (by omega)]at h;omega
  ·constructor
   ·intro h;by_cases hv:18446744073709551616<=v
    ·exact .inl hv
    ·right;rw[an (by omega)];omega
   ·rintro(h|h)
    ·omega
    ·by_cases hv:18446744073709551616<=v
     ·omega
     ·rw[an (by omega)]at h;omega
 ·rw[Nat.add_mod,Nat.mul_mod]
  conv=>rhs;rw[Nat.add_mod,Nat.mul_mod,Nat.mod_mod]
theorem wrap64(x:Int):IntKind.u64.wrap x=x%18446744073709551616:=by simp[IntKind.wrap,IntKind.signed,IntKind.bits]
theorem Mw(s:tBA)(i:Nat)(w:tW)(hs:s.size<=1000000)(hi:i<=s.size):Calls prog 61 #[.string s,.int .i64 i] w λe w'=>e=.returned (.tuple #[.agg (fE s i).1.cells,.int .i64 (fE s i).2])/\aa af w w':=by
 have HB0:ae (aq ((w.alloc (.cells #[.int .u64 0,.bool false,.bool false] 45)).alloc (.cells #[.int .u64 0,.bool false,.bool false] 45)) (w.heap.size+1) #[.int .u64 0,.bool false,.bool false] 45):=by
  have:=aq.new (w.alloc (.cells #[.int .u64 0,.bool false,.bool false] 45)) #[.int .u64 0,.bool false,.bool false] 45
  simpa [ae]using this
 have iy:ae (aq ((w.alloc (.cells #[.int .u64 0,.bool false,.bool false] 45)).alloc (.cells #[.int .u64 0,.bool false,.bool false] 45)) w.heap.size #[.int .u64 0,.bool false,.bool false] 45):=(aq.new w _ _).alloc _;have gq:ae (aa af w ((w.alloc (.cells #[.int .u64 0,.bool false,.bool false] 45)).alloc (.cells #[.int .u64 0,.bool false,.bool false] 45))):=((aa.refl _ _).alloc _).alloc _;go_enter func61,ntmps61;go_upto_region 3 with fail;generalize(w.alloc (.cells #[.int .u64 0,.bool false,.bool false] 45)).alloc (.cells #[.int .u64 0,.bool false,.bool false] 45)=w1 at *;have gU:ae (w.heap.size+1≠w.heap.size):=by rw[ae];omega
 have rH:ae (w.heap.size<=w.heap.size+1):=Nat.le_succ _;generalize hB:w.heap.size+1=B at *;generalize hR:w.heap.size=R at *;go_cut [22] (λv wx=>v=.bool (numSign s i)/\wx=w1)
 case first =>
  by_cases h:i<s.size
  ·have HS:ae (numSign s i=decide (((s[i]'h).toNat:Int)=45)):=by rw[ae,numSign,iV,dif_pos h]
   go_wp2_with fail;go_meet;exact⟨by rw[HS.o];rfl,rfl⟩
  ·have HS:ae (numSign s i=false):=by rw[ae,numSign,iV,dif_neg h];decide
   go_wp2_with fail;go_meet;exact⟨by rw[HS.o],rfl⟩
 case rest =>
 obtain⟨rfl,rfl⟩:=hcut;have HK:ae (dh s i=if numSign s i then i+1 else i):=rfl
 have HKL:ae (numSign s i=true->i+1<=s.size):=λh=>by
  unfold numSign iV at h;by_cases c:i<s.size
  ·omega
  ·rw[dif_neg c]at h;exact absurd h (by decide)
 have f0:=HB0.o.frozen;have g0:wc.cell? ⟨B,2,none⟩=some (.bool false):=HB0.o.cell 2;go_upto_if 22 with fail;go_cut [7] (λkv wx=>kv=.int .i64 (dh s i:Nat)/\aq wx B #[.int .u64 0,.bool false,.bool (numSign s i)] 45/\aq wx R #[.int .u64 0,.bool false,.bool false] 45/\aa af w wx/\dh s i<=s.size)
 case first =>
  cases hm:numSign s i with
  |true =>
   have hk:=HKL.o hm;have Kh:ae (dh s i=i+1):=by rw[ae,HK.o,hm,iP9 rfl]
   have HB1:ae (aq (wc.setCell ⟨B,2,none⟩ (.bool true)) B #[.int .u64 0,.bool false,.bool true] 45):=HB0.o.set 2 _;have Ap:ae (aq (wc.setCell ⟨B,2,none⟩ (.bool true)) R #[.int .u64 0,.bool false,.bool false] 45):=iy.o.setOther (a:=⟨B,2,none⟩) gU.o _;have iG:ae (aa af w (wc.setCell ⟨B,2,none⟩ (.bool true))):=gq.o.set (a:=⟨B,2,none⟩) (.inr (by rw[hR];exact rH.o)) _;go_wp2_with fail;go_meet;exact⟨by rw[Kh.o];go_num,by rw[hm];exact HB1.o,Ap.o,iG.o,by rw[Kh.o];exact hk⟩
  |false =>
   have Kh:ae (dh s i=i):=by rw[ae,HK.o,hm];rfl
   go_wp2_with fail;go_meet;exact⟨by rw[Kh.o],by rw[hm];exact HB0.o,iy.o,gq.o,by rw[Kh.o];exact hi⟩
 case rest =>
 obtain⟨rfl,hb1,hr1,hm1,hkl⟩:=hcut;have HB1:=ak hb1;have Ap:=ak hr1;have iG:=ak hm1;have HST:ae (dw s i=if fQ s (dh s i)then dh s i+2 else dh s i):=rfl;have Q5:ae (iD s i=if fQ s (dh s i)then 16 else 10):=rfl;clear hb1 hr1 hm1 HK HKL HB0 iy gq f0 g0;have acU:dh s i=dh s i:=rfl;generalize hkf:dh s i=k at acU HST Q5 hkl ⊢;have HKF:=ak hkf;clear acU hkf;go_upto_region 7 with fail;go_cut [51] (λv wx=>v=.bool (fQ s k)/\wx=wc)
 case first =>
  by_cases h2:k+2<s.size
  ·have h2':((k:Int)+2<s.size):=by omega
   have HX:ae (fQ s k=(decide (((s[k]'(by omega)).toNat:Int)=48)&&decide (((s[k+1]'(by omega)).toNat:Int)=120)&&decide (0<=xN ((s[k+2]'h2).toNat:Int) 16))):=by rw[ae,fQ,decide_eq_true h2,iV,dif_pos (by omega),iV,dif_pos (by omega),gp,dif_pos h2,Bool.true_and]
   have HV:ae (∀w',Calls prog 124 #[.int .u8 ((s[k+2]'h2).toNat:Int),.int .i64 16] w' λe w''=>e=.returned (.int .i64 (xN ((s[k+2]'h2).toNat:Int) 16))/\w''=w'):=λw'=>Gh _ _ w' (by have:=(s[k+2]'h2).toNat_lt;omega);by_cases h48:(s[k]'(by omega)).toNat=48
   ·by_cases YK:(s[k+1]'(by omega)).toNat=120
    ·go_wp2_with fail;refine(HV.o _).mono ?_;rintro e w2 ⟨rfl,rfl⟩;have uH:ae (fQ s k=decide (0<=xN ((s[k+2]'h2).toNat:Int) 16)):=by rw[ae,HX.o,h48,YK];simp
     clear HX HV;generalize xN ((s[k+2]'h2).toNat:Int) 16=dv at *;by_cases hd:0<=dv
     ·have oK:ae (fQ s k=true):=by rw[ae,uH.o,decide_eq_true hd]
      go_wp2_with fail;go_meet;exact⟨by rw[oK.o],rfl⟩
     ·have hd':decide (0<=dv)=false:=by simpa using hd
      have oK:ae (fQ s k=false):=by rw[ae,uH.o,hd']
      clear uH hd;go_wp2_with fail;go_meet;exact⟨by rw[oK.o],rfl⟩
    ·have t1:(((s[k+1]'(by omega)).toNat:Int)==120)=false:=by simp;omega
     have oK:ae (fQ s k=false):=by rw[ae,HX.o,decide_eq_false (show ¬((s[k+1]'(by omega)).toNat:Int)=120 by omega)];simp
     clear HX HV;go_wp2_with fail;go_meet;exact⟨by rw[oK.o],rfl⟩
   ·have t1:(((s[k]'(by omega)).toNat:Int)==48)=false:=by simp;omega
    have oK:ae (fQ s k=false):=by rw[ae,HX.o,decide_eq_false (show ¬((s[k]'(by omega)).toNat:Int)=48 by omega)];simp
    clear HX HV;go_wp2_with fail;go_meet;exact⟨by rw[oK.o],rfl⟩
  ·have h2':decide ((k:Int)+2<s.size)=false:=by simp;omega
   have HS:ae (fQ s k=false):=by rw[ae,fQ,decide_eq_false h2];rfl
   go_wp2_with fail;go_meet;exact⟨by rw[HS.o],rfl⟩
 case rest =>
 obtain⟨rfl,rfl⟩:=hcut;have HHX:ae (fQ s k=true->k+2<s.size):=λh=>by unfold fQ at h;simp only[Bool.and_eq_true,decide_eq_true_eq]at h;exact h.1.1.1
 have HIS:ae (i<=k):=by rw[ae,<-HKF.o,dh];split<;>omega
 go_upto_if 51 with fail;go_cut [7,8] (λkv bv wx=>kv=.int .i64 (dw s i:Nat)/\bv=.int .i64 (iD s i:Nat)/\wx=wc/\dw s i<=s.size/\(iD s i=10\/iD s i=16)/\i<=dw s i)
 case first =>
  cases hm:fQ s k with
  |true =>
   have hk:=HHX.o hm;have Kh:ae (dw s i=k+2/\iD s i=16):=by rw[ae,HST.o,Q5.o,hm,iP9 rfl,iP9 rfl];exact⟨rfl,rfl⟩
   go_wp2_with fail;go_meet;exact⟨by rw[Kh.o.1];go_num,by rw[Kh.o.2];rfl,rfl,by rw[Kh.o.1];omega,.inr Kh.o.2,by rw[Kh.o.1];have:=HIS.o;omega⟩
  |false =>
   have Kh:ae (dw s i=k/\iD s i=10):=by rw[ae,HST.o,Q5.o,hm];exact⟨rfl,rfl⟩
   go_wp2_with fail;go_meet;exact⟨by rw[Kh.o.1],by rw[Kh.o.2];rfl,rfl,by rw[Kh.o.1];exact hkl,.inl Kh.o.2,by rw[Kh.o.1];exact HIS.o⟩
 case rest =>
 obtain⟨rfl,rfl,rfl,hsl,hbs,aeb⟩:=hcut;have abG:ae (oJ s i=ah4 s (iD s i) (s.size-dw s i) (dw s i) 0):=rfl;have EY:ae (fE s i=(⟨(oJ s i).1,numSign s i⟩,if(oJ s i).2=dw s i then 0 else(oJ s i).2-i)):=rfl;clear HST Q5 HHX;generalize numSign s i=mi at *;generalize dw s i=st at *;generalize iD s i=base at *;generalize oJ s i=al at *;have HV:ae (∀k (h:k<s.size) w',Calls prog 124 #[.int .u8 ((s[k]'h).toNat:Int),.int .i64 base] w' λe w''=>e=.returned (.int .i64 (gp s base k))/\w''=w'):=λk h w'=>by have:=Gh ((s[k]'h).toNat:Int) base w' (by have:=(s[k]'h).toNat_lt;omega);rw[gp,dif_pos h];exact this
 go_upto_block 0 with fail;go_cut [7] (λkv wx=>∃k v:Nat,kv=.int .i64 k/\aq wx B (aA.cells ⟨v,mi⟩) 45/\aq wx R #[.int .u64 0,.bool false,.bool false] 45/\aa af w wx/\al=(v,k)/\st<=k/\k<=s.size)
 case first =>
  go_wp2_with fail;go_loopg [7] (s.size-st) (λq kv wx=>∃k v:Nat,kv=.int .i64 k/\aq wx B (aA.cells ⟨v,mi⟩) 45/\aq wx R #[.int .u64 0,.bool false,.bool false] 45/\aa af w wx/\al=ah4 s base (s.size-k) k v/\st<=k/\k<=s.size/\q=s.size-k)
  case atStart=>exact⟨st,0,rfl,HB1.o,Ap.o,iG.o,abG.o,Nat.le_refl _,hsl,rfl⟩
  case round =>
   obtain⟨k,v,rfl,hb,hr,hm,hal,hsk,hks,rfl⟩:=hrel;have qk:=ak hb;have wU:=ak hr;have uk:=ak hm;have HAk:=ak hal;clear hb hr hm hal HB1 Ap iG abG;have hdl:=UR s base k;by_cases hkl:k<s.size
   ·obtain⟨j,hj⟩:∃j,s.size-k=j+1:=⟨s.size-k-1,by omega⟩
    have HA2:ae (al=if 0<=gp s base k then ah4 s base j (k+1) (v*base+(gp s base k).toNat)else(v,k)):=by rw[ae,HAk.o,hj,ah4]
    have HV1:=ak (HV.o k hkl);have HJ:ae (s.size-(k+1)=j):=by rw[ae];omega
    clear hj HAk;generalize gp s base k=dv at *;go_wp2_with fail;refine(HV1.o _).mono ?_;rintro e w2 ⟨rfl,rfl⟩;by_cases hd:0<=dv
    ·obtain⟨d,rfl⟩:∃d:Nat,dv=(d:Int):=⟨dv.toNat,by omega⟩
     have kT:ae (al=ah4 s base j (k+1) (v*base+d)):=by rw[ae,HA2.o,iP9 hd];rfl
     have abH:d<=15:=by omega
     clear HA2;go_wp2_with fail;refine(HV1.o _).mono ?_;rintro e w3 ⟨rfl,rfl⟩;clear HV1 HV;have Mx:=Kg v base d hbs abH;have c0:w3.cell? ⟨B,0,none⟩=some (.int .u64 ((v%18446744073709551616:Nat):Int)):=qk.o.cell 0;have hu:v%18446744073709551616<18446744073709551616:=Nat.mod_lt _ (by decide);have JT:ae _:=Mx;clear Mx;generalize hU:v%18446744073709551616=u at *;rcases hbs with rfl|rfl
     ·have HW:ae (IntKind.u64.wrap (IntKind.u64.wrap ((u:Int)*10)+(d:Int))=(((v*10+d)%18446744073709551616:Nat):Int)):=by rw[ae,JT.o.2,wrap64,wrap64];omega
      have De:=ak JT.o.1;clear JT;go_upto_region 13 with fail;go_quiet (fail);have MB:ae (aq (w3.drewN nq) B #[.int .u64 (u:Int),.bool (decide (18446744073709551616<=v)),.bool mi] 45):=by have:=qk.o.drewN nq;unfold aA.cells at this;dsimp only at this;rw[hU]at this;exact this
      have YL:=ak (wU.o.drewN nq);have YM:=ak (uk.o.drewN nq);clear qk wU uk c0;generalize w3.drewN nq=wq at *;have c0:wq.cell? ⟨B,0,none⟩=some (.int .u64 (u:Int)):=MB.o.cell 0;have c1:wq.cell? ⟨B,1,none⟩=some (.bool (decide (18446744073709551616<=v))):=MB.o.cell 1;have cf:=MB.o.frozen;generalize hq:decide ((18446744073709551615-(d:Int))/10<(u:Int))=qq at *;cases qq with
      |true =>
       have ht:(18446744073709551615-d)/10<u:=by have:=of_decide_eq_true hq;omega
       clear hq;have HB2:ae (aq ((wq.setCell ⟨B,1,none⟩ (.bool true)).setCell ⟨B,0,none⟩ (.int .u64 (IntKind.u64.wrap (IntKind.u64.wrap ((u:Int)*10)+(d:Int))))) B (aA.cells ⟨v*10+d,mi⟩) 45):=by have:=(MB.o.set 1 (.bool true)).set 0 (.int .u64 (IntKind.u64.wrap (IntKind.u64.wrap ((u:Int)*10)+(d:Int))));rw[HW.o]at this ⊢;unfold aA.cells;dsimp only;rw[De.o,decide_eq_true ht,Bool.or_true];exact this
       have jI:ae (aq ((wq.setCell ⟨B,1,none⟩ (.bool true)).setCell ⟨B,0,none⟩ (.int .u64 (IntKind.u64.wrap (IntKind.u64.wrap ((u:Int)*10)+(d:Int))))) R #[.int .u64 0,.bool false,.bool false] 45):=(YL.o.setOther (a:=⟨B,1,none⟩) gU.o _).setOther (a:=⟨B,0,none⟩) gU.o _;have ep:ae (aa af w ((wq.setCell ⟨B,1,none⟩ (.bool true)).setCell ⟨B,0,none⟩ (.int .u64 (IntKind.u64.wrap (IntKind.u64.wrap ((u:Int)*10)+(d:Int)))))):=(YM.o.set (a:=⟨B,1,none⟩) (.inr (by rw[hR];exact rH.o)) _).set (a:=⟨B,0,none⟩) (.inr (by rw[hR];exact rH.o)) _;clear MB YL YM De;go_wp2_with fail;go_roundg (s.size-(k+1))
       case measure=>omega
       case rel=>exact⟨k+1,v*10+d,by go_num,HB2.o,jI.o,ep.o,by rw[HJ.o];exact kT.o,by omega,by omega,rfl⟩
      |false =>
       have ht:¬(18446744073709551615-d)/10<u:=by have:=of_decide_eq_false hq;omega
       clear hq;have HB2:ae (aq (wq.setCell ⟨B,0,none⟩ (.int .u64 (IntKind.u64.wrap (IntKind.u64.wrap ((u:Int)*10)+(d:Int))))) B (aA.cells ⟨v*10+d,mi⟩) 45):=by have:=MB.o.set 0 (.int .u64 (IntKind.u64.wrap (IntKind.u64.wrap ((u:Int)*10)+(d:Int))));rw[HW.o]at this ⊢;unfold aA.cells;dsimp only;rw[De.o,decide_eq_false ht,Bool.or_false];exact this
       have jI:ae (aq (wq.setCell ⟨B,0,none⟩ (.int .u64 (IntKind.u64.wrap (IntKind.u64.wrap ((u:Int)*10)+(d:Int))))) R #[.int .u64 0,.bool false,.bool false] 45):=YL.o.setOther (a:=⟨B,0,none⟩) gU.o _;have ep:ae (aa af w (wq.setCell ⟨B,0,none⟩ (.int .u64 (IntKind.u64.wrap (IntKind.u64.wrap ((u:Int)*10)+(d:Int)))))):=YM.o.set (a:=⟨B,0,none⟩) (.inr (by rw[hR];exact rH.o)) _;clear MB YL YM De ht;go_wp2_with fail;go_roundg (s.size-(k+1))
       case measure=>omega
       case rel=>exact⟨k+1,v*10+d,by go_num,HB2.o,jI.o,ep.o,by rw[HJ.o];exact kT.o,by omega,by omega,rfl⟩
     ·have HW:ae (IntKind.u64.wrap (IntKind.u64.wrap ((u:Int)*16)+(d:Int))=(((v*16+d)%18446744073709551616:Nat):Int)):=by rw[ae,JT.o.2,wrap64,wrap64];omega
      have De:=ak JT.o.1;clear JT;go_upto_region 13 with fail;go_quiet (fail);have MB:ae (aq (w3.drewN nq) B #[.int .u64 (u:Int),.bool (decide (18446744073709551616<=v)),.bool mi] 45):=by have:=qk.o.drewN nq;unfold aA.cells at this;dsimp only at this;rw[hU]at this;exact this
      have YL:=ak (wU.o.drewN nq);have YM:=ak (uk.o.drewN nq);clear qk wU uk c0;generalize w3.drewN nq=wq at *;have c0:wq.cell? ⟨B,0,none⟩=some (.int .u64 (u:Int)):=MB.o.cell 0;have c1:wq.cell? ⟨B,1,none⟩=some (.bool (decide (18446744073709551616<=v))):=MB.o.cell 1;have cf:=MB.o.frozen;generalize hq:decide ((18446744073709551615-(d:Int))/16<(u:Int))=qq at *;cases qq with
      |true =>
       have ht:(18446744073709551615-d)/16<u:=by have:=of_decide_eq_true hq;omega
       clear hq;have HB2:ae (aq ((wq.setCell ⟨B,1,none⟩ (.bool true)).setCell ⟨B,0,none⟩ (.int .u64 (IntKind.u64.wrap (IntKind.u64.wrap ((u:Int)*16)+(d:Int))))) B (aA.cells ⟨v*16+d,mi⟩) 45):=by have:=(MB.o.set 1 (.bool true)).set 0 (.int .u64 (IntKind.u64.wrap (IntKind.u64.wrap ((u:Int)*16)+(d:Int))));rw[HW.o]at this ⊢;unfold aA.cells;dsimp only;rw[De.o,decide_eq_true ht,Bool.or_true];exact this
       have jI:ae (aq ((wq.setCell ⟨B,1,none⟩ (.bool true)).setCell ⟨B,0,none⟩ (.int .u64 (IntKind.u64.wrap (IntKind.u64.wrap ((u:Int)*16)+(d:Int))))) R #[.int .u64 0,.bool false,.bool false] 45):=(YL.o.setOther (a:=⟨B,1,none⟩) gU.o _).setOther (a:=⟨B,0,none⟩) gU.o _;have ep:ae (aa af w ((wq.setCell ⟨B,1,none⟩ (.bool true)).setCell ⟨B,0,none⟩ (.int .u64 (IntKind.u64.wrap (IntKind.u64.wrap ((u:Int)*16)+(d:Int)))))):=(YM.o.set (a:=⟨B,1,none⟩) (.inr (by rw[hR];exact rH.o)) _).set (a:=⟨B,0,none⟩) (.inr (by rw[hR];exact rH.o)) _;clear MB YL YM De;go_wp2_with fail;go_roundg (s.size-(k+1))
       case measure=>omega
       case rel=>exact⟨k+1,v*16+d,by go_num,HB2.o,jI.o,ep.o,by rw[HJ.o];exact kT.o,by omega,by omega,rfl⟩
      |false =>
       have ht:¬(18446744073709551615-d)/16<u:=by have:=of_decide_eq_false hq;omega
       clear hq;have HB2:ae (aq (wq.setCell ⟨B,0,none⟩ (.int .u64 (IntKind.u64.wrap (IntKind.u64.wrap ((u:Int)*16)+(d:Int))))) B (aA.cells ⟨v*16+d,mi⟩) 45):=by have:=MB.o.set 0 (.int .u64 (IntKind.u64.wrap (IntKind.u64.wrap ((u:Int)*16)+(d:Int))));rw[HW.o]at this ⊢;unfold aA.cells;dsimp only;rw[De.o,decide_eq_false ht,Bool.or_false];exact this
       have jI:ae (aq (wq.setCell ⟨B,0,none⟩ (.int .u64 (IntKind.u64.wrap (IntKind.u64.wrap ((u:Int)*16)+(d:Int))))) R #[.int .u64 0,.bool false,.bool false] 45):=YL.o.setOther (a:=⟨B,0,none⟩) gU.o _;have ep:ae (aa af w (wq.setCell ⟨B,0,none⟩ (.int .u64 (IntKind.u64.wrap (IntKind.u64.wrap ((u:Int)*16)+(d:Int)))))):=YM.o.set (a:=⟨B,0,none⟩) (.inr (by rw[hR];exact rH.o)) _;clear MB YL YM De ht;go_wp2_with fail;go_roundg (s.size-(k+1))
       case measure=>omega
       case rel=>exact⟨k+1,v*16+d,by go_num,HB2.o,jI.o,ep.o,by rw[HJ.o];exact kT.o,by omega,by omega,rfl⟩
    ·have hd':decide (0<=dv)=false:=by simpa using hd
     have kT:ae (al=(v,k)):=by rw[ae,HA2.o,iN9 hd]
     clear HA2 hd HV1;go_wp2_with fail;go_meet;exact⟨k,v,rfl,qk.o,wU.o,uk.o,kT.o,hsk,hks⟩
   ·obtain rfl:k=s.size:=by omega
    have kT:ae (al=(v,s.size)):=by rw[ae,HAk.o,Nat.sub_self];rfl
    go_wp2_with fail;go_meet;exact⟨s.size,v,rfl,qk.o,wU.o,uk.o,kT.o,hsk,hks⟩
 case rest =>
 obtain⟨k,v,rfl,hb,hr,hm,hal,hsk,hks⟩:=hcut;have hst:i<=st:=aeb;have HNK:ae (fE s i=(⟨v,mi⟩,if k=st then 0 else k-i)):=by rw[ae,EY.o,hal]
 have c0:wc.cell? ⟨B,0,none⟩=some (.int .u64 ((v%18446744073709551616:Nat):Int)):=hb.cell 0;have c1:wc.cell? ⟨B,1,none⟩=some (.bool (decide (18446744073709551616<=v))):=hb.cell 1;have c2:wc.cell? ⟨B,2,none⟩=some (.bool mi):=hb.cell 2;have r0:wc.cell? ⟨R,0,none⟩=some (.int .u64 0):=hr.cell 0;have r1:wc.cell? ⟨R,1,none⟩=some (.bool false):=hr.cell 1;have r2:wc.cell? ⟨R,2,none⟩=some (.bool false):=hr.cell 2;have rf:=hr.frozen;have Gi:ae (aq (((wc.setCell ⟨R,0,none⟩ (.int .u64 ((v%18446744073709551616:Nat):Int))).setCell ⟨R,1,none⟩ (.bool (decide (18446744073709551616<=v)))).setCell ⟨R,2,none⟩ (.bool mi)) R (aA.cells ⟨v,mi⟩) 45):=((hr.set 0 _).set 1 _).set 2 _;have US:ae (aa af w (((wc.setCell ⟨R,0,none⟩ (.int .u64 ((v%18446744073709551616:Nat):Int))).setCell ⟨R,1,none⟩ (.bool (decide (18446744073709551616<=v)))).setCell ⟨R,2,none⟩ (.bool mi))):=((hm.set (a:=⟨R,0,none⟩) (.inr (ao hR)) _).set (a:=⟨R,1,none⟩) (.inr (ao hR)) _).set (a:=⟨R,2,none⟩) (.inr (ao hR)) _;clear hb hr hm hal EY HB1 Ap iG abG HV;generalize((v%18446744073709551616:Nat):Int)=u at *;generalize decide (18446744073709551616<=v)=bg at *;by_cases hk:k=st
 ·subst hk;have um:ae (fE s i=(⟨v,mi⟩,0)):=by rw[ae,HNK.o,iP9 rfl]
  clear HNK;go_wp2_with fail;refine bodyPost_ret (au results61 _ _ R 45 _ (0,0) _ _ rfl rfl Gi.o underlying45 rfl (by kernel_rfl)) rfl ⟨?_,US.o⟩;rw[um.o];rfl
 ·have hk':((k:Int)==st)=false:=by simp;omega
  have um:ae (fE s i=(⟨v,mi⟩,k-i)):=by rw[ae,HNK.o,iN9 hk]
  clear HNK hk;go_wp2_with fail;refine bodyPost_ret (au results61 _ _ R 45 _ (0,0) _ _ rfl rfl Gi.o underlying45 rfl (by kernel_rfl)) rfl ⟨?_,US.o⟩;rw[um.o];have e:((k-i:Nat):Int)=(k:Int)-i:=by omega
  show Ending.returned (.tuple #[.agg (aA.cells ⟨v,mi⟩),.int .i64 ((k:Int)-i)])=.returned (.tuple #[.agg (aA.cells ⟨v,mi⟩),.int .i64 ((k-i:Nat):Int)])
  rw[e]
