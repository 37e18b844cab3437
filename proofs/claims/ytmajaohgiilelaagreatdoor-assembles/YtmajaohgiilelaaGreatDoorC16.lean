import Derived.Test.YtmajaohgiilelaaGreatDoorC12
import Derived.Test.YtmajaohgiilelaaGreatDoorC09
namespace Go.Proofs.YtmajaohgiilelaaGreatDoor
open Go.RowKit Tryz
open Bool renaming and_eq_true->ar
open Int renaming add_zero->bh
open List renaming length_cons->an,length_nil->ba,map_cons->bt,map_nil->b9,flatMap_cons->ca
open Nat renaming le_refl->ao,zero_le->bj
set_option linter.all false
set_option maxRecDepth 100000
set_option maxHeartbeats 2000000
def kS(l:List Int):tBA:=T (l.map (λx=>UInt8.ofNat x.toNat))
theorem qL(l:List Int):(kS l).size=l.length:=by rw[kS,bZ];simp
theorem oW(w:tW)(l:List Int)(h:∀x∈l,0<=x/\x<=255):Sem.run prog (convert 62 9 (.slice (some ⟨w.heap.size,0,none⟩) l.length l.length)) (w.alloc (.cells (l.map (Value.int .u8)).toArray 5))=.ok (.string (kS l)) (w.alloc (.cells (l.map (Value.int .u8)).toArray 5)):=by
 have key:=run_convert_bytes_back (P:=prog) (w.alloc (.cells (l.map (Value.int .u8)).toArray 5)) 62 9 5 ⟨w.heap.size,0,none⟩ l.length (l.map (λx=>UInt8.ofNat x.toNat)) underlying62 underlying5 underlying9 ?_
 ·rw[List.length_map]at key;exact key
 ·intro j hj;have hj':j<l.length:=by simpa using hj
  have hadd:(⟨w.heap.size,0,none⟩:Addr).add j=⟨w.heap.size,j,none⟩:=by unfold Addr.add;split<;>simp_all
  rw[hadd,(aq.new w _ _).cell j];have hb:=h l[j] (List.getElem_mem hj');have e:((UInt8.ofNat (l[j]).toNat).toNat:Int)=l[j]:=by rw[UInt8.toNat_ofNat'];omega
  simp[hj'];omega
def dY(n:Int):List Int:=[n%256,n/256%256]
def bS(n:Int):List Int:=[n%256,n/256%256,n/65536%256,n/16777216%256]
theorem KI(n:Int)(w:tW):Calls prog 20 #[.int .i64 n] w λe w'=>e=.returned (.string (kS (dY n)))/\aa af w w':=by have hc:=oW w (dY n) (λx hx=>by simp[dY]at hx;rcases hx with rfl|rfl<;>omega);simp only[dY,bt,b9,an,ba]at hc;have HE:ae (dY n=[n%256,n/256%256]):=rfl;go_enter func20,ntmps20;go_wp2_with fail;go_ret;exact⟨rfl,(aa.refl _ _).alloc _⟩
theorem KJ(n:Int)(w:tW):Calls prog 44 #[.int .u64 n] w λe w'=>e=.returned (.string (kS (bS n)))/\aa af w w':=by have hc:=oW w (bS n) (λx hx=>by simp[bS]at hx;rcases hx with rfl|rfl|rfl|rfl<;>omega);simp only[bS,bt,b9,an,ba]at hc;go_enter func44,ntmps44;go_wp2_with fail;go_ret;exact⟨rfl,(aa.refl _ _).alloc _⟩
def Jb(s:tBA):tBA:=kS [(s.size:Int)%256]++s
theorem RQ(s:tBA)(hs:s.size<=1000)(w:tW):Calls prog 19 #[.string s] w λe w'=>e=.returned (.string (Jb s))/\aa af w w':=by
 have hc:=oW w [(s.size:Int)%256] (λx hx=>by simp at hx;subst hx;omega);simp only[bt,b9,an,ba]at hc;have hz:=qL [(s.size:Int)%256];have HE:ae (Jb s=kS [(s.size:Int)%256]++s):=rfl;simp only[an,ba]at hz;go_enter func19,ntmps19;go_wp2_with fail
 trace_state
 go_ret;exact⟨by rw[HE.o];rfl,(aa.refl _ _).alloc _⟩
def Jc:List Int:=[1,2,4,8]
def opS(d:Int):Nat->Int
 |0=>0
 |k+1=>if Jc[k]?.getD 0=d then 128+k else opS d k
theorem wh(s:tBA):∀(l:List tBA),-1<=ahH s l/\ahH s l<l.length
 |[]=>by simp[ahH]
 |x::l=>by
  have:=wh s l;rw[ahH,an];split
  ·omega
  ·split
   ·omega
   ·omega
theorem wrap_small(x:Int)(h0:-1000<=x)(h1:x<=1000):IntKind.i64.wrap x=x:=by simp[IntKind.wrap,IntKind.bits,IntKind.signed];split<;>omega
def Aq(i:bI):Int :=
 let k:=aD i.word
 if k=114 then 1+ahH i.word gW+(if i.is32 then 16 else 0)+(if i.s<0 then 32 else 0)
 else if k=106 then 64+ahH i.word fD+(if i.s<0 then 32 else 0)
 else if k=108\/k=115 then opS ((i.word[2]!).toNat-48) 4+(if i.word[0]! = 115 then 4 else 0)+(if i.s<0 then 4 else 0)
 else if k=119 then 192
 else if k=104\/k=99 then 193
 else 194
theorem Z6(i:bI)(w:tW)(hw:i.word.size<=100)(hk:aD i.word=119\/aD i.word=104\/aD i.word=99\/aD i.word=101):Calls prog 43 #[.agg i.cells] w λe w'=>e=.returned (.int .i64 (Aq i))/\aa af w w':=by
 have HE:ae (Aq i=if aD i.word=119 then 192 else if aD i.word=104\/aD i.word=99 then 193 else 194):=by rw[ae,Aq];rcases hk with h|h|h|h<;>simp[h]
 obtain⟨word,is32,d,s,jump,n,label,name⟩:=i;unfold bI.cells;simp only at *;go_enter func43,ntmps43;go_wp2_with fail;refine(eG _ _ (by unfold maxLen;omega)).mono ?_;rintro e w1 ⟨rfl,m1⟩;have M1:aa af w w1:=((aa.refl _ _).alloc _).trans m1;rcases hk with hk|hk|hk|hk
 all_goals
  rw[hk]at HE ⊢;go_wp2_with fail;go_ret;exact⟨by rw[HE.o];rfl,M1⟩
theorem aex(i:bI)(w:tW)(hw:i.word.size<=100)(hs0:-1<=i.s)(hk:aD i.word=114):Calls prog 43 #[.agg i.cells] w λe w'=>e=.returned (.int .i64 (Aq i))/\aa af w w':=by
 have HE:ae (Aq i=1+ahH i.word gW+(if i.is32 then 16 else 0)+(if i.s<0 then 32 else 0)):=by rw[ae,Aq,hk];rfl
 have hpl:=wh i.word gW;rw[show gW.length=13 from rfl]at hpl;obtain⟨word,is32,d,s,jump,n,label,name⟩:=i;unfold bI.cells;simp only at *;go_enter func43,ntmps43;go_wp2_with fail;refine(eG _ _ (by unfold maxLen;omega)).mono ?_;rintro e w1 ⟨rfl,m1⟩;have hb1:aq w1 w.heap.size #[.string word,.bool is32,.int .i64 d,.int .i64 s,.int .i64 jump,.int .u64 n,.string label,.string name] 43:=(aq.new w _ _).ah m1 (λe=>e);have M1:aa af w w1:=((aa.refl _ _).alloc _).trans m1;obtain⟨c0,c1,c2,c3,c4,c5,c6,c7⟩:=hb1.eY;rw[hk];have hwr:=wrap_small (1+ahH word gW) (by omega) (by omega);go_upto_region 5 with fail;go_cut [3] (λs3 wx=>s3=.int .i64 (1+ahH word gW)/\aa af w wx/\aq wx w.heap.size #[.string word,.bool is32,.int .i64 d,.int .i64 s,.int .i64 jump,.int .u64 n,.string label,.string name] 43)
 case first =>
  go_region_with (first |(go_at_call 67;refine(Bz _).mono ?_;rintro e w2 ⟨rfl,b2,m2⟩;have hb2:=aq.ah (aq.drew hb1) m2 (λe=>e);have M2:=(M1.drew).trans m2;have c02:w2.cell? ⟨w.heap.size,0,none⟩=some (.string word):=hb2.cell 0) |(go_at_call 41;refine(xx _ _ _ b2).mono ?_;rintro e w3 ⟨rfl,rfl⟩))
  all_goals
   go_wp2_with fail;go_meet;exact⟨rfl,M2,hb2⟩
 case rest =>
 obtain⟨rfl,M2,hb2⟩:=hcut;clear c0 c1 c2 c3 c4 c5 c6 c7;obtain⟨c0,c1,c2,c3,c4,c5,c6,c7⟩:=hb2.eY;cases is32
 all_goals
  by_cases hs:s<0
  ·have HE2:=ak HE.o;rw[iP9 hs]at HE2;go_wp2_with fail;go_ret;exact⟨by rw[HE2.o];simp,M2⟩
  ·have HE2:=ak HE.o;rw[iN9 hs]at HE2;go_wp2_with fail;go_ret;exact⟨by rw[HE2.o];simp,M2⟩
theorem aey(i:bI)(w:tW)(hw:i.word.size<=100)(hs0:-1<=i.s)(hk:aD i.word=106):Calls prog 43 #[.agg i.cells] w λe w'=>e=.returned (.int .i64 (Aq i))/\aa af w w':=by
 have HE:ae (Aq i=64+ahH i.word fD+(if i.s<0 then 32 else 0)):=by rw[ae,Aq,hk];rfl
 have hpl:=wh i.word fD;rw[show fD.length=12 from rfl]at hpl;obtain⟨word,is32,d,s,jump,n,label,name⟩:=i;unfold bI.cells;simp only at *;go_enter func43,ntmps43;go_wp2_with fail;refine(eG _ _ (by unfold maxLen;omega)).mono ?_;rintro e w1 ⟨rfl,m1⟩;have hb1:aq w1 w.heap.size #[.string word,.bool is32,.int .i64 d,.int .i64 s,.int .i64 jump,.int .u64 n,.string label,.string name] 43:=(aq.new w _ _).ah m1 (λe=>e);have M1:aa af w w1:=((aa.refl _ _).alloc _).trans m1;obtain⟨c0,c1,c2,c3,c4,c5,c6,c7⟩:=hb1.eY;rw[hk];have hwr:=wrap_small (64+ahH word fD) (by omega) (by omega);by_cases hs:s<0
 case' pos =>have HE2:=ak HE.o;rw[iP9 hs]at HE2
 case' neg =>have HE2:=ak HE.o;rw[iN9 hs]at HE2
 all_goals
  go_upto_region 9 with fail;go_region_with (first |(go_at_call 68;refine(yS _).mono ?_;rintro e w2 ⟨rfl,b2,m2⟩;have hb2:=aq.ah (aq.drew hb1) m2 (λe=>e);have M2:=(M1.drew).trans m2;have c02:w2.cell? ⟨w.heap.size,0,none⟩=some (.string word):=hb2.cell 0;have c32:w2.cell? ⟨w.heap.size,3,none⟩=some (.int .i64 s):=hb2.cell 3) |(go_at_call 41;refine(uN _ _ _ b2).mono ?_;rintro e w3 ⟨rfl,rfl⟩))
  all_goals
   go_wp2_with fail;go_ret;exact⟨by rw[HE2.o];simp,M2⟩
theorem VF(d:Int):∀k,k<=4->0<=opS d k/\opS d k<=200
 |0,_=>by simp[opS]
 |k+1,h=>by
  have:=VF d k (by omega);rw[opS];split
  ·omega
  ·exact this
theorem ac3(i:bI)(w:tW)(hw:i.word.size=3)(hs0:-1<=i.s)(hk:aD i.word=108\/aD i.word=115):Calls prog 43 #[.agg i.cells] w λe w'=>e=.returned (.int .i64 (Aq i))/\aa af w w':=by
 have HE:ae (Aq i=opS (((i.word[2]'(by omega)).toNat:Int)-48) 4+(if i.word[0]'(by omega)=115 then 4 else 0)+(if i.s<0 then 4 else 0)):=by rw[ae,Aq];have e2:i.word[2]! = i.word[2]'(by omega):=getElem!_pos _ _ _;have e0:i.word[0]! = i.word[0]'(by omega):=getElem!_pos _ _ _;rw[e2,e0];rcases hk with h|h<;>simp[h]
 obtain⟨word,is32,d,s,jump,n,label,name⟩:=i;unfold bI.cells;have hw3:word.size=3:=hw;simp only at *;go_enter func43,ntmps43;go_wp2_with fail;refine(eG _ _ (by unfold maxLen;omega)).mono ?_;rintro e w1 ⟨rfl,m1⟩;have hb1:aq w1 w.heap.size #[.string word,.bool is32,.int .i64 d,.int .i64 s,.int .i64 jump,.int .u64 n,.string label,.string name] 43:=(aq.new w _ _).ah m1 (λe=>e);have M1:aa af w w1:=((aa.refl _ _).alloc _).trans m1;obtain⟨c0,c1,c2,c3,c4,c5,c6,c7⟩:=hb1.eY;have h2:2<word.size:=by omega
 have h0:0<word.size:=by omega
 have hl2:=(word[2]).toNat_lt;have hW2:aa af w (w1.alloc (.cells #[.int .i64 1,.int .i64 2,.int .i64 4,.int .i64 8] 3)):=M1.alloc _;have hB2:=hb1.alloc (.cells #[.int .i64 1,.int .i64 2,.int .i64 4,.int .i64 8] 3);have hZ2:=aq.new w1 #[.int .i64 1,.int .i64 2,.int .i64 4,.int .i64 8] 3;have HEE:ae _:=HE.o;clear HE m1;rcases hk with hk|hk
 all_goals
  rw[hk];go_wp2_with fail;generalize w1.alloc (Obj.cells #[.int .i64 1,.int .i64 2,.int .i64 4,.int .i64 8] 3)=W at *;generalize w1.heap.size=gz at *;go_loopg [3,5] 4 (λg nv kv wx=>∃k:Nat,kv=.int .i64 k/\nv=.int .i64 (opS (((word[2]'h2).toNat:Int)-48) k)/\aa af W wx/\k<=4/\g=4-k)
  case atStart=>exact⟨0,rfl,rfl,aa.refl _ _,by omega,rfl⟩
  case round =>
   obtain⟨k,rfl,rfl,hmd,hk4,rfl⟩:=hrel;have hB:=hB2.ah hmd (λe=>e);have hZ:=hZ2.ah hmd (λe=>e);clear c0 c1 c2 c3 c4 c5 c6 c7;obtain⟨c0,c1,c2,c3,c4,c5,c6,c7⟩:=hB.eY;by_cases hkl:k<4
   ·have cz:wr.cell? ⟨gz,k,none⟩=some (.int .i64 (Jc[k]?.getD 0)):=by
     rw[hZ.cell k];have:k=0\/k=1\/k=2\/k=3:=by omega
     rcases this with rfl|rfl|rfl|rfl<;>rfl
    have HS:ae (opS (((word[2]'h2).toNat:Int)-48) (k+1)=if Jc[k]?.getD 0=((word[2]'h2).toNat:Int)-48 then 128+(k:Int)else opS (((word[2]'h2).toNat:Int)-48) k):=rfl;generalize Jc[k]?.getD 0=z at *;by_cases hz:z=((word[2]'h2).toNat:Int)-48
    ·have hz2:(z==((word[2]'h2).toNat:Int)-48)=true:=by simp[hz]
     rw[iP9 hz]at HS;have HZ:ae _:=hz;clear hz;go_wp2_with fail;go_quiet (fail);go_wp2_with fail;go_roundg (4-(k+1))
     case measure=>omega
     case rel=>exact⟨k+1,by go_num,by rw[HS.o],hmd.drewN _,by omega,rfl⟩
    ·have hz2:(z==((word[2]'h2).toNat:Int)-48)=false:=by simp[hz]
     rw[iN9 hz]at HS;have HZ:ae _:=hz;clear hz;go_wp2_with fail;go_quiet (fail);go_wp2_with fail;go_roundg (4-(k+1))
     case measure=>omega
     case rel=>exact⟨k+1,by go_num,by rw[HS.o],hmd.drewN _,by omega,rfl⟩
   ·obtain rfl:k=4:=by omega
    have hbd:=VF (((word[2]'h2).toNat:Int)-48) 4 (by omega);have hl0:=(word[0]'h0).toNat_lt;generalize opS (((word[2]'h2).toNat:Int)-48) 4=nv at *;obtain⟨b0,b1⟩:=hbd;have Mz:=hW2.trans hmd;by_cases zA:word[0]'h0=115
    ·have ER:=HEE.o;rw[iP9 zA]at ER;have t0:(((word[0]'h0).toNat:Int)==115)=true:=by rw[zA];rfl
     by_cases hs:s<0
     ·rw[iP9 hs]at ER;have HE4:ae _:=ER;clear ER zA;go_wp2_with fail;go_ret;exact⟨by rw[HE4.o];rfl,Mz⟩
     ·rw[iN9 hs]at ER;have HE4:ae _:=ER;clear ER zA;go_wp2_with fail;go_ret;exact⟨by rw[HE4.o,bh];rfl,Mz⟩
    ·have ER:=HEE.o;rw[iN9 zA]at ER;have t0:(((word[0]'h0).toNat:Int)==115)=false:=by rw[beq_eq_false_iff_ne];exact λe=>zA (UInt8.toNat_inj.1 (by have:((word[0]'h0).toNat:Int)=115:=e;show(word[0]'h0).toNat=115;omega))
     by_cases hs:s<0
     ·rw[iP9 hs]at ER;have HE4:ae _:=ER;clear ER zA;go_wp2_with fail;go_ret;exact⟨by rw[HE4.o,bh];rfl,Mz⟩
     ·rw[iN9 hs]at ER;have HE4:ae _:=ER;clear ER zA;go_wp2_with fail;go_ret;exact⟨by rw[HE4.o,bh,bh];rfl,Mz⟩
theorem mB(s:tBA)(l:Int)(h:0<jQ s l):s.size=3:=by
 unfold jQ at h;by_cases e:s.size=3
 ·exact e
 ·simp[e]at h
theorem Dv(s:tBA)(h:aD s=108\/aD s=115):s.size=3:=by
 unfold aD at h;split at h
 ·omega
 split at h
 ·omega
 split at h
 ·rename_i e;exact mB s 108 e
 split at h
 ·rename_i e;exact mB s 115 e
 split at h
 ·omega
 split at h
 ·omega
 split at h
 ·omega
 split at h
 ·omega
 ·omega
theorem abM(i:bI)(h:i.Fit)(w:tW):Calls prog 43 #[.agg i.cells] w λe w'=>e=.returned (.int .i64 (Aq i))/\aa af w w':=by
 rcases h.sort with hk|hk |⟨hk,_⟩|hk|hk|hk|hk|hk
 ·exact aex i w h.word h.s0 hk
 ·exact aey i w h.word h.s0 hk
 ·exact ac3 i w (Dv _ (.inl hk)) h.s0 (.inl hk)
 ·exact ac3 i w (Dv _ (.inr hk)) h.s0 (.inr hk)
 ·exact Z6 i w h.word (.inl hk)
 ·exact Z6 i w h.word (.inr (.inl hk))
 ·exact Z6 i w h.word (.inr (.inr (.inl hk)))
 ·exact Z6 i w h.word (.inr (.inr (.inr hk)))
def Dw(lab:List (tBA×Int))(x:bI)(a:Int):Int:=if aD x.word=106 then ahJ x.label lab-a-dL x.word else x.jump
structure aY where
 kind:Nat
 s:tBA
 n:aA
def aY.cells(t:aY):List Value:=[.int .u8 t.kind,.string t.s,.int .u64 ((t.n.v%18446744073709551616:Nat):Int),.bool (decide (18446744073709551616<=t.n.v)),.bool t.n.minus]
theorem aY.jB(t:aY):t.cells.length=5:=rfl
def fT(s:tBA)(k:Nat):Bool:=if h:k<s.size then jd ((s[k]'h).toNat:Int)else false
def ahV(s:tBA):Nat->Nat->Nat
 |0,k=>k
 |f+1,k=>if fT s k then ahV s f (k+1)else k
def eZ(s:tBA)(k:Nat):Bool:=if h:k<s.size then aS ((s[k]'h).toNat:Int)else false
def mM(c:Int):Bool:=decide (c=58)||decide (c=44)||decide (c=91)||decide (c=93)||decide (c=43)||decide (c=45)
def numDigits(s:tBA)(i:Nat):Int:=((fE s i).2:Int)-(if(fE s i).1.minus then 1 else 0)
def ji(s:tBA)(i:Nat)(c:Int):Option (aY×Nat) :=
 if di c then some (⟨110,s.extract i (ahV s (s.size-i) i),⟨0,false⟩⟩,ahV s (s.size-i) i)
 else if aS c||(decide (c=45)&&eZ s (i+1))then
  (if 20<numDigits s i\/fT s (i+(fE s i).2)=true then none else some (⟨100,s.extract i (i+(fE s i).2),(fE s i).1⟩,i+(fE s i).2))
 else if mM c then some (⟨c.toNat,s.extract i (i+1),⟨0,false⟩⟩,i+1)else none
def ahP(s:tBA):Nat->Nat->Bool->List aY->Option (List aY)
 |0,_,_,acc=>some acc
 |f+1,i,said,acc =>
  if h:i<s.size then
   (if((s[i]'h).toNat:Int)<32\/126<((s[i]'h).toNat:Int)then none
    else if said||decide (((s[i]'h).toNat:Int)=59)||decide (((s[i]'h).toNat:Int)=32)then ahP s f (i+1) (said||decide (((s[i]'h).toNat:Int)=59)) acc
    else match ji s i ((s[i]'h).toNat:Int)with
    |none=>none
    |some (t,j)=>ahP s f j said (acc++[t]))
  else some acc
theorem wj(s:tBA):∀(f k:Nat),k<=s.size->k<=ahV s f k/\ahV s f k<=s.size
 |0,k,h=>⟨ao _,h⟩
 |f+1,k,h=>by
  rw[ahV];split
  ·rename_i hp
   have hk:k<s.size:=by
    unfold fT at hp;by_cases c:k<s.size
    ·exact c
    ·rw[dif_neg c]at hp;cases hp
   have:=wj s f (k+1) hk;omega
  ·exact⟨ao _,h⟩
theorem AA(s:tBA)(base:Nat):∀(f k v:Nat),k<=s.size->k<=(ah4 s base f k v).2/\(ah4 s base f k v).2<=s.size
 |0,k,_,h=>⟨ao _,h⟩
 |f+1,k,v,h=>by
  rw[ah4];split
  ·rename_i hp
   have hk:k<s.size:=by
    unfold gp at hp;by_cases c:k<s.size
    ·exact c
    ·rw[dif_neg c]at hp;exact absurd hp (by decide)
   have:=AA s base f (k+1) (v*base+(gp s base k).toNat) hk;omega
  ·exact⟨ao _,h⟩
theorem Z7(s:tBA)(k:Nat)(h:eZ s k=true):0<=gp s 10 k/\0<=gp s 16 k/\k<s.size:=by
 unfold eZ at h;by_cases c:k<s.size
 ·rw[dif_pos c]at h;unfold aS at h;simp only[ar,decide_eq_true_eq]at h;unfold gp xN;rw[dif_pos c,dif_pos c,iP9 h,iP9 h];omega
 ·rw[dif_neg c]at h;cases h
theorem RT(s:tBA)(base:Nat)(f k v:Nat)(hk:k<s.size)(hf:s.size-k<=f)(hd:0<=gp s base k):k<(ah4 s base f k v).2:=by
 obtain⟨g,rfl⟩:∃g,f=g+1:=⟨f-1,by omega⟩
 rw[ah4,iP9 hd];have:=AA s base g (k+1) (v*base+(gp s base k).toNat) hk;omega
theorem Qj(s:tBA)(i:Nat)(h:eZ s (dh s i)=true):0<(fE s i).2/\i+(fE s i).2<=s.size:=by
 have hif:i<=dh s i:=by unfold dh;split<;>omega
 obtain⟨h10,h16,hk⟩:=Z7 s _ h
 have key:dh s i<=dw s i/\dw s i<s.size/\0<=gp s (iD s i) (dw s i):=by
  unfold dw iD;by_cases hx:fQ s (dh s i)=true
  ·rw[iP9 hx,iP9 hx];unfold fQ at hx;simp only[ar,decide_eq_true_eq]at hx;exact⟨by omega,hx.1.1.1,hx.2⟩
  ·rw[iN9 hx,iN9 hx];exact⟨ao _,hk,h10⟩
 have h1:=RT s (iD s i) (s.size-dw s i) (dw s i) 0 key.2.1 (ao _) key.2.2;have h2:=AA s (iD s i) (s.size-dw s i) (dw s i) 0 (by omega);unfold fE oJ;dsimp only;rw[iN9 (by omega)];omega
theorem VG(s:tBA)(i:Nat)(hi:i<s.size)(h:fT s i=true):i<ahV s (s.size-i) i:=by
 obtain⟨g,hg⟩:∃g,s.size-i=g+1:=⟨s.size-i-1,by omega⟩
 rw[hg,ahV,iP9 h];have:=wj s g (i+1) hi;omega
theorem VH(s:tBA)(i:Nat)(hi:i<s.size)(t:aY)(j:Nat)(h:ji s i ((s[i]'hi).toNat:Int)=some (t,j)):i<j/\j<=s.size:=by
 unfold ji at h;split at h
 ·rename_i hsm
  cases h;have hp:fT s i=true:=by unfold fT jd;rw[dif_pos hi,hsm];simp
  exact⟨VG s i hi hp,(wj s _ i (by omega)).2⟩
 ·split at h
  ·rename_i hd
   split at h
   ·cases h
   ·cases h
    have hdig:eZ s (dh s i)=true:=by
     unfold dh numSign iV;rw[dif_pos hi];simp only[Bool.or_eq_true,ar,decide_eq_true_eq]at hd;rcases hd with hd|hd
     ·have hne:¬((s[i]'hi).toNat:Int)=45:=by unfold aS at hd;simp only[ar,decide_eq_true_eq]at hd;omega
      rw[iN9 (by simpa using hne)];unfold eZ;rw[dif_pos hi];exact hd
     ·rw[iP9 (by simpa using hd.1)];exact hd.2
    have:=Qj s i hdig;omega
  ·split at h
   ·cases h;omega
   ·cases h
theorem Dx(s:tBA):∀(n:Nat) (f g i:Nat) (said:Bool) (acc:List aY),s.size-i<=n->s.size-i<=f->s.size-i<=g->ahP s f i said acc=ahP s g i said acc
 |0,f,g,i,said,acc,hn,hf,hg=>by
  have hi:¬i<s.size:=by omega
  cases f<;>cases g<;>simp only[ahP,dif_neg hi]
 |n+1,f,g,i,said,acc,hn,hf,hg=>by
  by_cases hi:i<s.size
  ·obtain⟨f,rfl⟩:∃x,f=x+1:=⟨f-1,by omega⟩
   obtain⟨g,rfl⟩:∃x,g=x+1:=⟨g-1,by omega⟩
   rw[ahP,ahP,dif_pos hi,dif_pos hi];split
   ·rfl
   ·split
    ·exact Dx s n f g _ _ _ (by omega) (by omega) (by omega)
    ·cases ht:ji s i ((s[i]'hi).toNat:Int)with
     |none=>rfl
     |some x =>obtain⟨t,j⟩:=x;have:=VH s i hi t j ht;exact Dx s n f g _ _ _ (by omega) (by omega) (by omega)
  ·cases f<;>cases g<;>simp only[ahP,dif_neg hi]
structure nR(w0:tW)(v:Value)(ts:List aY)(w:tW):Prop where
 sl:Sl w 94 5 v ts.length (ts.flatMap aY.cells)
 own:∀k,v.ownBlock=some k->w0.heap.size<=k
 md:aa af w0 w
theorem nR.nil(w:tW):nR w (.slice none 0 0) [] w:=⟨Sl.nil _ _ _,(λk h=>by cases h),aa.refl _ _⟩
theorem nR.quiet{w0 w w':tW}{v:Value}{ts:List aY}(h:nR w0 v ts w)(m:aa af w w'):nR w0 v ts w' :=
 ⟨h.sl.ah m (λ_ _=>id),h.own,h.md.trans m⟩
theorem nR.app{w0 w w':tW}{v v':Value}{ts:List aY}{t:aY}(h:nR w0 v ts w)(s:Sl w' 94 5 v' (ts.length+1) (ts.flatMap aY.cells++t.cells))(m:aa (λk=>v.ownBlock=some k) w w')(l:∀k,v'.ownBlock=some k->v.ownBlock=some k\/w.heap.size<=k):nR w0 v' (ts++[t]) w':=by
 refine⟨?_,λk hk=>?_,h.md.step m (λi hi e=>by have:=h.own i e;omega)⟩
 ·rw[List.length_append,List.flatMap_append,List.flatMap_singleton];exact s
 ·rcases l k hk with e|e
  ·exact h.own k e
  ·have:=h.md.size;omega
theorem zB:(prog.info? 94).map (λi=>(i.zero,i.size,i.bytes))=some (some (.agg #[.int .u8 0,.string ByteArray.empty,.int .u64 0,.bool false,.bool false]),5,40):=by kernel_rfl
theorem Z9(t:aY):∀u∈t.cells,u.oneCell'=true:=by intro u hu;simp only[aY.cells,List.mem_cons,List.not_mem_nil,or_false]at hu;rcases hu with rfl|rfl|rfl|rfl|rfl<;>rfl
def fA(w:tW)(s:tBA)(e:Ending)(w':tW):Prop :=
 aa af w w'/\match ahP s s.size 0 false []with
  |none=>e=.returned (.tuple #[.slice none 0 0,.bool false])
  |some ts=>∃v,e=.returned (.tuple #[v,.bool true])/\nR w v ts w'
theorem fA.no{w w':tW}{s:tBA}(h:ahP s s.size 0 false []=none)(m:aa af w w'):fA w s (.returned (.tuple #[.slice none 0 0,.bool false])) w':=by refine⟨m,?_⟩;rw[h]
def pY:List tBA:=[T [114,48],T [114,49],T [114,50],T [114,51],T [114,52],T [114,53],T [114,54],T [114,55],T [114,56],T [114,57],T [114,49,48]]
def uX(s:tBA):Int:=ahH s pY
theorem zC(s:tBA)(w:tW):Calls prog 62 #[.string s] w λe w'=>e=.returned (.int .i64 (uX s))/\aa af w w':=by
 have HR:ae (uX s=ahH s pY):=rfl;generalize uX s=rm at *;have hb:aq (w.alloc (.cells (strs pY) 9)) w.heap.size (strs pY) 9:=aq.new _ _ _;have HM:ae (aa af w (w.alloc (.cells (strs pY) 9))):=(aa.refl _ _).alloc _;have hl:pY.length=11:=rfl;go_enter func62,ntmps62;go_wp2_with fail;generalize hw1:w.alloc (.cells (strs pY) 9)=w1 at *;go_loopg [4] 11 (λq i wx=>∃k:Nat,k<=11/\i=.int .i64 k/\wx=w1/\(∀j,(hj:j<pY.length)->j<k->pY[j]≠s)/\q=11-k)
 case atStart=>exact⟨0,bj _,rfl,hw1,λj _ h=>absurd h (Nat.not_lt_zero _),rfl⟩
 case round =>
  obtain⟨k,hk,rfl,hwx,hn,rfl⟩:=hrel;subst hwx;have HN:ae _:=hn;clear hn;by_cases hlt:k<11
  ·have hc:=hb.cell k;rw[Kb pY k hlt]at hc;by_cases he:pY[k]=s
   ·have HP:ae (rm=k):=by rw[ae,HR.o];exact og s pY k hlt (λj hj hjk=>HN.o j hj hjk) he
    have he':=uM he;clear he;go_wp2_with fail;go_ret;exact⟨aV HP.o.symm,HM.o⟩
   ·have hb':=mV he;have HE:ae _:=he;clear he;go_wp2_with fail;go_roundg (11-(k+1))
    case measure=>omega
    case rel=>exact⟨k+1,by omega,by go_num,rfl,λj hj hjk=>by
     by_cases e:j=k
     ·subst e;exact HE.o
     ·exact HN.o j hj (by omega),rfl⟩
  ·obtain rfl:k=11:=by omega
   have HP:ae (rm=-1):=by rw[ae,HR.o];exact kK s pY (λj hj=>HN.o j hj hj)
   go_wp2_with fail;go_ret;exact⟨aV HP.o.symm,HM.o⟩
def MAP:tBA:=T [109,97,112]
def FUNC:tBA:=T [102,117,110,99]
def qp(s:tBA):Bool:=decide (aD s≠0)||decide (s=MAP)||decide (s=FUNC)||decide (0<=uX s)
theorem Gw(s:tBA)(w:tW)(hs:s.size<=maxLen):Calls prog 32 #[.string s] w λe w'=>e=.returned (.bool (qp s))/\aa af w w':=by
 have HS2:ae (Calls prog 38 #[.string s] w λe w'=>e=.returned (.int .u8 (aD s))/\aa af w w'):=eG s w hs;have HT:ae (qp s=(decide (aD s≠0)||decide (s=MAP)||decide (s=FUNC)||decide (0<=uX s))):=rfl;generalize qp s=tk at *;generalize wW:aD s=so at *;go_enter func32,ntmps32;go_wp2_with fail;refine HS2.o.mono ?_;rintro e w1 ⟨rfl,m1⟩;by_cases h0:so=0
 ·subst h0;by_cases hm:s=MAP
  ·have q1:=dX hm;have HH:=ak hm;clear hm;go_wp2_with fail;go_ret;exact⟨fo (by rw[HT.o];simp[HH.o]),m1⟩
  ·have q1:=dK hm;by_cases hf:s=FUNC
   ·have q2:=dX hf;have HH:=ak hf;clear hf;go_wp2_with fail;go_ret;exact⟨fo (by rw[HT.o];simp[HH.o]),m1⟩
   ·have q2:=dK hf;go_wp2_with fail;refine(zC s _).mono ?_;rintro e w2 ⟨rfl,m2⟩;go_wp2_with fail;go_ret;exact⟨fo (by rw[HT.o];simp[hm,hf]),m1.trans m2⟩
 ·have q0:(so != 0)=true:=by simpa using h0
  go_wp2_with fail;go_ret;exact⟨fo (by rw[HT.o];simp[h0]),m1⟩
def nS:aY:=⟨0,E0,⟨0,false⟩⟩
structure DK where
 ts:List aY
 bad:Bool
def DK.take(p:DK)(k:Nat):aY×DK :=
 match p.ts with
 |[]=>(nS,⟨[],true⟩)
 |t::r=>if t.kind=k then(t,⟨r,p.bad⟩)else(nS,⟨[],true⟩)
def DK.is(p:DK)(k:Nat):Bool :=
 match p.ts with
 |[]=>false
 |t::_=>decide (t.kind=k)
def wm(w:tW)(v:Value)(ts:List aY):Prop :=
 ∃o c,v=.slice o ts.length c/\ts.length<=c/\c<=maxLen/\(0<ts.length->∃g off cs,o=some ⟨g,off,none⟩/\aq w g cs 94/\∀j,j<ts.length*5->cs[off+j]?=(ts.flatMap aY.cells)[j]?)
def Pk(w:tW)(a:Nat)(p:DK):Prop:=∃v,aq w a #[v,.bool p.bad] 92/\wm w v p.ts
theorem wm.ah{S:Nat->Prop}{w w':tW}{v:Value}{ts:List aY}(h:wm w v ts)(m:aa S w w')(hS:∀g cs,aq w g cs 94->¬S g):wm w' v ts:=by obtain⟨o,c,rfl,hc,hm,h⟩:=h;refine⟨o,c,rfl,hc,hm,λhp=>?_⟩;obtain⟨g,off,cs,rfl,hb,hj⟩:=h hp;exact⟨g,off,cs,rfl,hb.ah m (hS g cs hb),hj⟩
theorem aq.apart{w:tW}{a b:Nat}{cs ds:tAV}{t u:TypeId}(h:aq w a cs t)(k:aq w b ds u)(ht:t≠u):a≠b:=by rintro rfl;have e:(some (Obj.cells cs t (0,0)))=some (Obj.cells ds u (0,0)):=(show w.heap[a]?=_ from h).symm.trans k;injection e with e;injection e with e1 e2 e3;exact ht e2
theorem wm.only{w w':tW}{v:Value}{ts:List aY}{b:Nat}{cs:tAV}{t:TypeId}(h:wm w v ts)(hb:aq w b cs t)(ht:94≠t)(m:aa (Only b) w w'):wm w' v ts :=
 h.ah m (λ_ _ hg e=>hg.apart hb ht e)
theorem wm.quiet{w w':tW}{v:Value}{ts:List aY}(h:wm w v ts)(m:aa af w w'):wm w' v ts:=h.ah m (λ_ _ _ e=>e)
theorem Pk.ah{S:Nat->Prop}{w w':tW}{a:Nat}{p:DK}(h:Pk w a p)(m:aa S w w')(ha:¬S a)(hS:∀g cs,aq w g cs 94->¬S g):Pk w' a p:=by obtain⟨v,hb,ht⟩:=h;exact⟨v,hb.ah m ha,ht.ah m hS⟩
theorem Pk.quiet{w w':tW}{a:Nat}{p:DK}(h:Pk w a p)(m:aa af w w'):Pk w' a p:=h.ah m id (λ_ _ _ e=>e)
theorem Pk.lt{w:tW}{a:Nat}{p:DK}(h:Pk w a p):a<w.heap.size:=by obtain⟨v,hb,_⟩:=h;exact hb.lt
theorem wm.tail{w:tW}{g off c:Nat}{t:aY}{ts:List aY}(h:wm w (.slice (some ⟨g,off,none⟩) (ts.length+1) c) (t::ts)):wm w (.slice (some ⟨g,off+5,none⟩) ts.length (c-1)) ts:=by obtain⟨o,c',hv,hc,hm,h⟩:=h;injection hv with h1 h2 h3;subst h1 h3;simp only[an]at hc;refine⟨_,_,rfl,by omega,by omega,λhp=>?_⟩;obtain⟨g',off',cs,ho,hb,hj⟩:=h (by simp);cases ho;refine⟨g,off+5,cs,rfl,hb,λj hjl=>?_⟩;have:=hj (5+j) (by simp only[an];omega);rw[show off+(5+j)=off+5+j by omega]at this;rw[this,ca,List.getElem?_append_right (by rw[aY.jB];omega),aY.jB,show 5+j-5=j by omega]
theorem wm.nil(w:tW):wm w (.slice none 0 0) []:=⟨none,0,rfl,ao _,bj _,λh=>absurd h (Nat.lt_irrefl _)⟩
theorem wm.head{w:tW}{v:Value}{t:aY}{ts:List aY}(h:wm w v (t::ts)):∃g off c,v=.slice (some ⟨g,off,none⟩) (ts.length+1) c/\ts.length+1<=c/\c<=maxLen/\(∀j,j<5->w.cell? ⟨g,off+j,none⟩=t.cells[j]?)/\wm w (.slice (some ⟨g,off+5,none⟩) ts.length (c-1)) ts:=by have h0:=h;obtain⟨o,c,rfl,hc,hm,h⟩:=h;obtain⟨g,off,cs,rfl,hb,hj⟩:=h (by simp);refine⟨g,off,c,rfl,hc,hm,λj hjl=>?_,wm.tail h0⟩;rw[hb.cell,hj j (by simp only[an];omega),ca,List.getElem?_append_left (by rw[aY.jB];exact hjl)]
def aY.agg(t:aY):Value:=.agg #[.int .u8 t.kind,.string t.s,.int .u64 ((t.n.v%18446744073709551616:Nat):Int),.bool (decide (18446744073709551616<=t.n.v)),.bool t.n.minus]
theorem Pk.of{w:tW}{a:Nat}{v:Value}{ts:List aY}{bad:Bool}(h:aq w a #[v,.bool bad] 92)(t:wm w v ts):Pk w a ⟨ts,bad⟩:=⟨v,h,t⟩
theorem aq.E7{w:tW}{z:Nat}{t:TypeId}{b0 b1 b2 b3 b4:Value}(h:aq w z #[b0,b1,b2,b3,b4] t)(a0 a1 a2 a3 a4:Value):aq (((((w.setCell ⟨z,0,none⟩ a0).setCell ⟨z,1,none⟩ a1).setCell ⟨z,2,none⟩ a2).setCell ⟨z,3,none⟩ a3).setCell ⟨z,4,none⟩ a4) z #[a0,a1,a2,a3,a4] t :=
 ((((h.set 0 a0).set 1 a1).set 2 a2).set 3 a3).set 4 a4
theorem aq.Jd{w:tW}{z b:Nat}{t:TypeId}{cs:tAV}(h:aq w b cs t)(hz:¬z=b)(a0 a1 a2 a3 a4:Value):aq (((((w.setCell ⟨z,0,none⟩ a0).setCell ⟨z,1,none⟩ a1).setCell ⟨z,2,none⟩ a2).setCell ⟨z,3,none⟩ a3).setCell ⟨z,4,none⟩ a4) b cs t :=
 ((((h.setOther (a:=⟨z,0,none⟩) hz _).setOther (a:=⟨z,1,none⟩) hz _).setOther (a:=⟨z,2,none⟩) hz _).setOther (a:=⟨z,3,none⟩) hz _).setOther (a:=⟨z,4,none⟩) hz _
theorem aa.E7{S:Nat->Prop}{w0 w:tW}{z:Nat}(h:aa S w0 w)(hz:S z\/w0.heap.size<=z)(a0 a1 a2 a3 a4:Value):aa S w0 (((((w.setCell ⟨z,0,none⟩ a0).setCell ⟨z,1,none⟩ a1).setCell ⟨z,2,none⟩ a2).setCell ⟨z,3,none⟩ a3).setCell ⟨z,4,none⟩ a4) :=
 ((((h.set (a:=⟨z,0,none⟩) hz a0).set (a:=⟨z,1,none⟩) hz a1).set (a:=⟨z,2,none⟩) hz a2).set (a:=⟨z,3,none⟩) hz a3).set (a:=⟨z,4,none⟩) hz a4
theorem oo(a:Nat)(p:DK)(k:Nat)(w:tW)(h:Pk w a p):Calls prog 31 #[.pointer (some ⟨a,0,none⟩),.int .u8 k] w λe w'=>e=.returned (p.take k).1.agg/\Pk w' a (p.take k).2/\aa (Only a) w w':=by
 obtain⟨ts,bad⟩:=p;obtain⟨v,hb,ht⟩:=h;simp only at hb ht;obtain⟨Z,hZ⟩:∃Z,Z=w.heap.size:=⟨_,rfl⟩
 have gU:ae (a≠Z/\w.heap.size<=Z):=by have:=hb.lt;rw[ae];omega
 have HB:ae (aq (w.alloc (.cells #[.int .u8 0,.string ⟨#[]⟩,.int .u64 0,.bool false,.bool false] 94)) a #[v,.bool bad] 92):=hb.alloc _;have HT:ae (wm (w.alloc (.cells #[.int .u8 0,.string ⟨#[]⟩,.int .u64 0,.bool false,.bool false] 94)) v ts):=ht.quiet ((aa.refl _ _).alloc _);have HZ:ae (aq (w.alloc (.cells #[.int .u8 0,.string ⟨#[]⟩,.int .u64 0,.bool false,.bool false] 94)) Z #[.int .u8 0,.string ⟨#[]⟩,.int .u64 0,.bool false,.bool false] 94):=by rw[hZ];exact aq.new _ _ _
 have HM:ae (aa (Only a) w (w.alloc (.cells #[.int .u8 0,.string ⟨#[]⟩,.int .u64 0,.bool false,.bool false] 94))):=(aa.refl _ _).alloc _;have HK:ae ((DK.mk ts bad).take k=(DK.mk ts bad).take k):=rfl;go_enter func31,ntmps31;go_upto_region 1 with fail;rw[<-hZ];clear hZ;generalize w.alloc (.cells #[.int .u8 0,.string ⟨#[]⟩,.int .u64 0,.bool false,.bool false] 94)=w1 at *;cases ts with
 |nil =>obtain⟨o,c,rfl,_,_,_⟩:=ht;clear hb;have hne1:¬a=Z:=gU.o.1;have hne2:¬Z=a:=λe=>gU.o.1 e.symm;have c0:w1.cell? ⟨a,0,none⟩=some (.slice o 0 c):=HB.o.cell 0;have c1:w1.cell? ⟨a,1,none⟩=some (.bool bad):=HB.o.cell 1;have hbf:=HB.o.frozen;have hzf:=HZ.o.frozen;have z0:w1.cell? ⟨Z,0,none⟩=some (.int .u8 0):=HZ.o.cell 0;have z1:w1.cell? ⟨Z,1,none⟩=some (.string ⟨#[]⟩):=HZ.o.cell 1;have z2:w1.cell? ⟨Z,2,none⟩=some (.int .u64 0):=HZ.o.cell 2;have z3:w1.cell? ⟨Z,3,none⟩=some (.bool false):=HZ.o.cell 3;have z4:w1.cell? ⟨Z,4,none⟩=some (.bool false):=HZ.o.cell 4;go_wp2_with fail;refine bodyPost_ret (results_cell_row results31 _ _ Z 94 _ (0,0) _ rfl (aq.E7 ((HZ.o.setOther (a:=⟨a,1,none⟩) hne1 _).setOther (a:=⟨a,0,none⟩) hne1 _) _ _ _ _ _) underlying94 rfl (by kernel_rfl)) rfl ⟨rfl,Pk.of (v:=.slice none 0 0) (aq.Jd ((HB.o.set 1 _).set 0 _) hne2 _ _ _ _ _) (wm.nil _),((HM.o.bP 1 _).bP 0 _).E7 (.inr gU.o.2) _ _ _ _ _⟩
 |cons t ts =>
  obtain⟨g,off,c,rfl,hc,hm,hcell,htl⟩:=HT.o.head;have HTL:ae (wm w (.slice (some ⟨g,off+5,none⟩) ts.length (c-1)) ts):=wm.tail ht;have HB0:ae (∃v,aq w a #[v,.bool bad] 92):=⟨_,hb⟩
  clear hb ht;have t0:w1.cell? ⟨g,off,none⟩=some (.int .u8 t.kind):=hcell 0 (by omega);have t1:w1.cell? ⟨g,off+1,none⟩=some (.string t.s):=hcell 1 (by omega);have t2:w1.cell? ⟨g,off+2,none⟩=some (.int .u64 ((t.n.v%18446744073709551616:Nat):Int)):=hcell 2 (by omega);have t3:w1.cell? ⟨g,off+3,none⟩=some (.bool (decide (18446744073709551616<=t.n.v))):=hcell 3 (by omega);have t4:w1.cell? ⟨g,off+4,none⟩=some (.bool t.n.minus):=hcell 4 (by omega);have Je:ae ((DK.mk (t::ts) bad).take k=if t.kind=k then(t,⟨ts,bad⟩)else(nS,⟨[],true⟩)):=rfl;clear hcell htl HT HK;obtain⟨n,hn⟩:∃n,n=ts.length+1:=⟨_,rfl⟩
  have HN:=ak hn;rw[<-hn]at HB hc;have hn0:0<n:=by omega
  have hn1:((n:Int)==0)=false:=by simp;omega
  clear hn;have HU:ae (t.agg=.agg #[.int .u8 t.kind,.string t.s,.int .u64 ((t.n.v%18446744073709551616:Nat):Int),.bool (decide (18446744073709551616<=t.n.v)),.bool t.n.minus]):=rfl;have hne1:¬a=Z:=gU.o.1;have hne2:¬Z=a:=λe=>gU.o.1 e.symm;have c0:w1.cell? ⟨a,0,none⟩=some (.slice (some ⟨g,off,none⟩) n c):=HB.o.cell 0;have c1:w1.cell? ⟨a,1,none⟩=some (.bool bad):=HB.o.cell 1;have hbf:=HB.o.frozen;have hzf:=HZ.o.frozen;have z0:w1.cell? ⟨Z,0,none⟩=some (.int .u8 0):=HZ.o.cell 0;have z1:w1.cell? ⟨Z,1,none⟩=some (.string ⟨#[]⟩):=HZ.o.cell 1;have z2:w1.cell? ⟨Z,2,none⟩=some (.int .u64 0):=HZ.o.cell 2;have z3:w1.cell? ⟨Z,3,none⟩=some (.bool false):=HZ.o.cell 3;have z4:w1.cell? ⟨Z,4,none⟩=some (.bool false):=HZ.o.cell 4;by_cases hk:t.kind=k
  ·have hk1:(((t.kind:Nat):Int) !=(k:Int))=false:=by simp;omega
   generalize hU:((t.n.v%18446744073709551616:Nat):Int)=uu at *;generalize hBg:decide (18446744073709551616<=t.n.v)=bg at *;generalize t.s=ss at *;generalize t.n.minus=mi at *;generalize hkd:t.kind=kd at *;subst hk;go_upto_region 6 with fail;have HY2:ae (aq (w1.alloc (.cells #[.int .u8 kd,.string ss,.int .u64 uu,.bool bg,.bool mi] 94)) w1.heap.size #[.int .u8 kd,.string ss,.int .u64 uu,.bool bg,.bool mi] 94):=aq.new _ _ _;have HB2:ae (aq (w1.alloc (.cells #[.int .u8 kd,.string ss,.int .u64 uu,.bool bg,.bool mi] 94)) a #[.slice (some ⟨g,off,none⟩) n c,.bool bad] 92):=HB.o.alloc _;have HZ2:ae (aq (w1.alloc (.cells #[.int .u8 kd,.string ss,.int .u64 uu,.bool bg,.bool mi] 94)) Z #[.int .u8 0,.string ⟨#[]⟩,.int .u64 0,.bool false,.bool false] 94):=HZ.o.alloc _;have ep:ae (aa (Only a) w (w1.alloc (.cells #[.int .u8 kd,.string ss,.int .u64 uu,.bool bg,.bool mi] 94))):=HM.o.alloc _;have HYL:ae (¬a=w1.heap.size/\¬Z=w1.heap.size):=by have:=HB.o.lt;have:=HZ.o.lt;rw[ae];omega
   clear HB HZ HM c0 c1 hbf hzf z0 z1 z2 z3 z4 t0 t1 t2 t3 t4 hk1;generalize w1.alloc (.cells #[.int .u8 kd,.string ss,.int .u64 uu,.bool bg,.bool mi] 94)=w2 at *;generalize w1.heap.size=Y at *;have hy1:=HYL.o.1;have hy2:=HYL.o.2;have c0:w2.cell? ⟨a,0,none⟩=some (.slice (some ⟨g,off,none⟩) n c):=HB2.o.cell 0;have hbf:=HB2.o.frozen;have hzf:=HZ2.o.frozen;have z0:w2.cell? ⟨Z,0,none⟩=some (.int .u8 0):=HZ2.o.cell 0;have z1:w2.cell? ⟨Z,1,none⟩=some (.string ⟨#[]⟩):=HZ2.o.cell 1;have z2:w2.cell? ⟨Z,2,none⟩=some (.int .u64 0):=HZ2.o.cell 2;have z3:w2.cell? ⟨Z,3,none⟩=some (.bool false):=HZ2.o.cell 3;have z4:w2.cell? ⟨Z,4,none⟩=some (.bool false):=HZ2.o.cell 4;have y0:w2.cell? ⟨Y,0,none⟩=some (.int .u8 kd):=HY2.o.cell 0;have y1:w2.cell? ⟨Y,1,none⟩=some (.string ss):=HY2.o.cell 1;have y2:w2.cell? ⟨Y,2,none⟩=some (.int .u64 uu):=HY2.o.cell 2;have y3:w2.cell? ⟨Y,3,none⟩=some (.bool bg):=HY2.o.cell 3;have y4:w2.cell? ⟨Y,4,none⟩=some (.bool mi):=HY2.o.cell 4;go_wp2_with fail
   case inl =>
    as_aux_lemma =>
    refine bodyPost_ret (results_cell_row results31 _ _ Z 94 _ (0,0) _ rfl (aq.E7 (HZ2.o.setOther (a:=⟨a,0,none⟩) hne1 _) _ _ _ _ _) underlying94 rfl (by kernel_rfl)) rfl ?_;obtain⟨v0,hb0⟩:=HB0.o;have hnn:=HN.o;rw[Je.o,iP9 (show True from trivial)];refine⟨by rw[HU.o],Pk.of (aq.Jd (HB2.o.set 0 _) hne2 _ _ _ _ _) ?_,(ep.o.bP 0 _).E7 (.inr gU.o.2) _ _ _ _ _⟩;exact⟨_,_,by rw[show n-1=ts.length by omega],by omega,by omega,λh=>by omega⟩
   case inr =>
    as_aux_lemma =>
    refine bodyPost_ret (results_cell_row results31 _ _ Z 94 _ (0,0) _ rfl (aq.E7 (HZ2.o.setOther (a:=⟨a,0,none⟩) hne1 _) _ _ _ _ _) underlying94 rfl (by kernel_rfl)) rfl ?_;obtain⟨v0,hb0⟩:=HB0.o;have hnn:=HN.o;rw[Je.o,iP9 (show True from trivial)];refine⟨by rw[HU.o],Pk.of (aq.Jd (HB2.o.set 0 _) hne2 _ _ _ _ _) ?_,(ep.o.bP 0 _).E7 (.inr gU.o.2) _ _ _ _ _⟩;refine wm.only ?_ hb0 (by decide) ((ep.o.bP 0 _).E7 (.inr gU.o.2) _ _ _ _ _);rw[show n-1=ts.length by omega];exact HTL.o
  ·have hk1:(((t.kind:Nat):Int) !=(k:Int))=true:=by simp;omega
   go_wp2_with fail;refine bodyPost_ret (results_cell_row results31 _ _ Z 94 _ (0,0) _ rfl (aq.E7 ((HZ.o.setOther (a:=⟨a,1,none⟩) hne1 _).setOther (a:=⟨a,0,none⟩) hne1 _) _ _ _ _ _) underlying94 rfl (by kernel_rfl)) rfl ?_;rw[Je.o,iN9 hk];exact⟨rfl,Pk.of (v:=.slice none 0 0) (aq.Jd ((HB.o.set 1 _).set 0 _) hne2 _ _ _ _ _) (wm.nil _),((HM.o.bP 1 _).bP 0 _).E7 (.inr gU.o.2) _ _ _ _ _⟩
theorem zD(a:Nat)(p:DK)(k:Nat)(w:tW)(h:Pk w a p):Calls prog 66 #[.pointer (some ⟨a,0,none⟩),.int .u8 k] w λe w'=>e=.returned (.bool (p.is k))/\aa af w w':=by
 obtain⟨ts,bad⟩:=p;obtain⟨v,hb,ht⟩:=h;simp only at hb ht;cases ts with
 |nil =>obtain⟨o,c,rfl,_,_,_⟩:=ht;have c0:w.cell? ⟨a,0,none⟩=some (.slice o 0 c):=hb.cell 0;go_enter func66,ntmps66;go_wp2_with fail;go_ret;exact⟨rfl,aa.refl _ _⟩
 |cons t ts =>
  obtain⟨g,off,c,rfl,hc,hm,hcell,htl⟩:=ht.head;have t0:w.cell? ⟨g,off,none⟩=some (.int .u8 t.kind):=hcell 0 (by omega);have Je:ae ((DK.mk (t::ts) bad).is k=decide (t.kind=k)):=rfl;have c0:w.cell? ⟨a,0,none⟩=some (.slice (some ⟨g,off,none⟩) (ts.length+1) c):=hb.cell 0;clear hcell htl;generalize hn:ts.length+1=n at *;have hn0:0<n:=by omega
  clear hn;by_cases hk:t.kind=k
  ·have Cs:ae ((DK.mk (t::ts) bad).is k=true):=by rw[ae,Je.o,decide_eq_true hk]
   have hk1:(((t.kind:Nat):Int)==(k:Int))=true:=by simp;omega
   clear hk Je;go_enter func66,ntmps66;go_wp2_with fail;go_ret;exact⟨by rw[Cs.o];rfl,aa.refl _ _⟩
  ·have Cs:ae ((DK.mk (t::ts) bad).is k=false):=by rw[ae,Je.o,decide_eq_false hk]
   have hk1:(((t.kind:Nat):Int)==(k:Int))=false:=by simp;omega
   clear hk Je;go_enter func66,ntmps66;go_wp2_with fail;go_ret;exact⟨by rw[Cs.o];rfl,aa.refl _ _⟩
def DK.fail(p:DK)(b:Bool):DK:=⟨p.ts,p.bad||b⟩
def DK.name(p:DK):tBA×DK:=((p.take 110).1.s,(p.take 110).2.fail (!ahI (p.take 110).1.s.data.toList))
def DK.fF(p:DK):Int×DK:=(uX (p.take 110).1.s,(p.take 110).2.fail (decide (uX (p.take 110).1.s<0)))
def DK.Small(p:DK):Prop:=∀t∈p.ts,t.s.size<=1000000
theorem DK.jk{p:DK}(h:p.Small)(k:Nat):(p.take k).1.s.size<=1000000/\(p.take k).2.Small:=by
 unfold DK.take;unfold DK.Small at *;split
 ·exact⟨bj _,λ_ h=>by simp at h⟩
 ·rename_i t r e
  rw[e]at h;split
  ·exact⟨h t (by simp),λx hx=>h x (by simp[hx])⟩
  ·exact⟨bj _,λ_ h=>by simp at h⟩
theorem DK.Dy{p:DK}(h:p.Small)(b:Bool):(p.fail b).Small:=h
theorem DK.oZ(p:DK):p.fail false=p:=by simp[DK.fail]
theorem DK.ou(p:DK):p.fail true=⟨p.ts,true⟩:=by simp[DK.fail]
theorem Pk.MZ{w:tW}{a:Nat}{p:DK}(h:Pk w a p):Pk (w.setCell ⟨a,1,none⟩ (.bool true)) a ⟨p.ts,true⟩:=by obtain⟨v,hb,ht⟩:=h;exact⟨v,hb.set 1 _,ht.only hb (by decide) ((aa.refl (Only a) w).bP 1 _)⟩
theorem Pk.facts{w:tW}{a:Nat}{p:DK}(h:Pk w a p):w.cell? ⟨a,1,none⟩=some (.bool p.bad)/\∀i,w.frozen? ⟨a,i,none⟩=false:=by obtain⟨v,hb,ht⟩:=h;exact⟨hb.cell 1,hb.frozen⟩
theorem Pk.alloc{w:tW}{a:Nat}{p:DK}(h:Pk w a p)(o:Obj):Pk (w.alloc o) a p:=h.quiet ((aa.refl _ _).alloc _)
theorem AF(a:Nat)(p:DK)(w:tW)(h:Pk w a p)(hs:p.Small):Calls prog 34 #[.pointer (some ⟨a,0,none⟩)] w λe w'=>e=.returned (.string p.name.1)/\Pk w' a p.name.2/\aa (Only a) w w':=by
 have HN:ae (p.name=((p.take 110).1.s,(p.take 110).2.fail (!ahI (p.take 110).1.s.data.toList))):=rfl;have HT:ae (Calls prog 31 #[.pointer (some ⟨a,0,none⟩),.int .u8 110] w λe w'=>e=.returned (p.take 110).1.agg/\Pk w' a (p.take 110).2/\aa (Only a) w w'):=oo a p 110 w h;have hsz:=(DK.jk hs 110).1;generalize p.name=nm at *;generalize p.take 110=tq at *;obtain⟨t,q⟩:=tq;simp only at *;have Dz:ae (t.agg=.agg #[.int .u8 t.kind,.string t.s,.int .u64 ((t.n.v%18446744073709551616:Nat):Int),.bool (decide (18446744073709551616<=t.n.v)),.bool t.n.minus]):=rfl;rw[Dz.o]at HT;have HTS:ae (∀w,Calls prog 33 #[.string t.s] w λe w'=>e=.returned (.bool (ahI t.s.data.toList))/\w'=w):=λw=>Da t.s w (by unfold maxLen;omega);generalize((t.n.v%18446744073709551616:Nat):Int)=uu at *;generalize decide (18446744073709551616<=t.n.v)=bg at *;generalize t.s=ts at *;generalize t.n.minus=mi at *;generalize((t.kind:Nat):Int)=kd at *;generalize ahI ts.data.toList=ok at *;clear Dz hsz;go_enter func34,ntmps34;go_wp2_with fail;refine HT.o.mono ?_;rintro e w1 ⟨rfl,p1,m1⟩;clear HT;have fq:ae (Pk (w1.alloc (.cells #[.int .u8 kd,.string ts,.int .u64 uu,.bool bg,.bool mi] 94)) a q):=p1.alloc _;have iG:ae (aa (Only a) w (w1.alloc (.cells #[.int .u8 kd,.string ts,.int .u64 uu,.bool bg,.bool mi] 94))):=m1.alloc _;have HB1:ae (aq (w1.alloc (.cells #[.int .u8 kd,.string ts,.int .u64 uu,.bool bg,.bool mi] 94)) w1.heap.size #[.int .u8 kd,.string ts,.int .u64 uu,.bool bg,.bool mi] 94):=aq.new _ _ _;have gU:ae (¬a=w1.heap.size):=by have:=p1.lt;rw[ae];omega
 clear p1 m1;go_upto_region 2 with fail;generalize w1.alloc (.cells #[.int .u8 kd,.string ts,.int .u64 uu,.bool bg,.bool mi] 94)=w2 at *;generalize w1.heap.size=Y at *;have hne:=gU.o;have y1:w2.cell? ⟨Y,1,none⟩=some (.string ts):=HB1.o.cell 1;have hf:=fq.o.facts.2;have hc:=fq.o.facts.1;go_wp2_with fail;refine(HTS.o _).mono ?_;rintro e w3 ⟨rfl,rfl⟩;cases ok with
 |true =>go_wp2_with fail;go_ret;rw[HN.o];exact⟨rfl,by rw[Bool.not_true,DK.oZ];exact fq.o,iG.o⟩
 |false =>go_wp2_with fail;go_ret;rw[HN.o];exact⟨rfl,by rw[Bool.not_false,DK.ou];exact fq.o.MZ,iG.o.bP 1 _⟩
theorem DA(a:Nat)(p:DK)(w:tW)(h:Pk w a p):Calls prog 63 #[.pointer (some ⟨a,0,none⟩)] w λe w'=>e=.returned (.int .i64 p.fF.1)/\Pk w' a p.fF.2/\aa (Only a) w w':=by
 have HN:ae (p.fF=(uX (p.take 110).1.s,(p.take 110).2.fail (decide (uX (p.take 110).1.s<0)))):=rfl;have HT:ae (Calls prog 31 #[.pointer (some ⟨a,0,none⟩),.int .u8 110] w λe w'=>e=.returned (p.take 110).1.agg/\Pk w' a (p.take 110).2/\aa (Only a) w w'):=oo a p 110 w h;generalize p.fF=nm at *;generalize p.take 110=tq at *;obtain⟨t,q⟩:=tq;simp only at *;have Dz:ae (t.agg=.agg #[.int .u8 t.kind,.string t.s,.int .u64 ((t.n.v%18446744073709551616:Nat):Int),.bool (decide (18446744073709551616<=t.n.v)),.bool t.n.minus]):=rfl;rw[Dz.o]at HT;have HTS:ae (∀w,Calls prog 62 #[.string t.s] w λe w'=>e=.returned (.int .i64 (uX t.s))/\aa af w w'):=λw=>zC t.s w;generalize((t.n.v%18446744073709551616:Nat):Int)=uu at *;generalize decide (18446744073709551616<=t.n.v)=bg at *;generalize t.s=ts at *;generalize t.n.minus=mi at *;generalize((t.kind:Nat):Int)=kd at *;generalize uX ts=rm at *;clear Dz;go_enter func63,ntmps63;go_wp2_with fail;refine HT.o.mono ?_;rintro e w1 ⟨rfl,p1,m1⟩;clear HT;have fq:ae (Pk (w1.alloc (.cells #[.int .u8 kd,.string ts,.int .u64 uu,.bool bg,.bool mi] 94)) a q):=p1.alloc _;have iG:ae (aa (Only a) w (w1.alloc (.cells #[.int .u8 kd,.string ts,.int .u64 uu,.bool bg,.bool mi] 94))):=m1.alloc _;have HB1:ae (aq (w1.alloc (.cells #[.int .u8 kd,.string ts,.int .u64 uu,.bool bg,.bool mi] 94)) w1.heap.size #[.int .u8 kd,.string ts,.int .u64 uu,.bool bg,.bool mi] 94):=aq.new _ _ _;clear p1 m1;go_upto_region 2 with fail;generalize w1.alloc (.cells #[.int .u8 kd,.string ts,.int .u64 uu,.bool bg,.bool mi] 94)=w2 at *;generalize w1.heap.size=Y at *;have y1:w2.cell? ⟨Y,1,none⟩=some (.string ts):=HB1.o.cell 1;go_wp2_with fail;refine(HTS.o _).mono ?_;rintro e w3 ⟨rfl,m3⟩;have mr:=ak (fq.o.quiet m3);have fw:=ak (iG.o.trans m3.of_nil);clear fq iG HB1 y1 m3;have hf:=mr.o.facts.2;have hc:=mr.o.facts.1;by_cases hr:rm<0
 ·go_wp2_with fail;go_ret;rw[HN.o];exact⟨rfl,by rw[decide_eq_true hr,DK.ou];exact mr.o.MZ,fw.o.bP 1 _⟩
 ·have hr':decide (rm<0)=false:=decide_eq_false hr;go_wp2_with fail;go_ret;rw[HN.o];exact⟨rfl,by rw[hr',DK.oZ];exact mr.o,fw.o⟩
structure aj where
 kind:Int:=0
 name:tBA:=E0
 vl:Value:=.slice none 0 0
 i:bI:={}
 n:aA:=⟨0,false⟩
 j:aA:=⟨0,false⟩
 hn:Bool:=false
 hj:Bool:=false
def aj.cells(x:aj):tAV :=
 #[.int .u8 x.kind,.string x.name,x.vl,.string x.i.word,.bool x.i.is32,.int .i64 x.i.d,.int .i64 x.i.s,.int .i64 x.i.jump,.int .u64 x.i.n,.string x.i.label,.string x.i.name,
  .int .u64 ((x.n.v%18446744073709551616:Nat):Int),.bool (decide (18446744073709551616<=x.n.v)),.bool x.n.minus,
  .int .u64 ((x.j.v%18446744073709551616:Nat):Int),.bool (decide (18446744073709551616<=x.j.v)),.bool x.j.minus,.bool x.hn,.bool x.hj]
def AB(a b:Nat):Nat->Prop:=λk=>k=a\/k=b
structure PL(w0:tW)(a b:Nat)(p:DK)(x:aj)(w:tW):Prop where
 pk:Pk w a p
 ln:aq w b x.cells 47
 md:aa (AB a b) w0 w
section
variable {w0 w w' : World} {a b : Nat} {p q : DK} {x y : aj}
theorem PL.start(h:Pk w a p)(k:aq w b x.cells 47):PL w a b p x w:=⟨h,k,aa.refl _ _⟩
theorem Pk.apart(h:Pk w a p){cs:tAV}{t:TypeId}(k:aq w b cs t)(ht:92≠t):a≠b:=by obtain⟨v,hb,_⟩:=h;exact hb.apart k ht
theorem PL.ne(h:PL w0 a b p x w):a≠b:=h.pk.apart h.ln (by decide)
theorem PL.quiet(h:PL w0 a b p x w)(m:aa af w w'):PL w0 a b p x w':=⟨h.pk.quiet m,h.ln.ah m id,h.md.trans m.of_nil⟩
theorem PL.read(h:PL w0 a b p x w)(k:Pk w' a q)(m:aa (Only a) w w'):PL w0 a b q x w' :=
 ⟨k,h.ln.ah m (λe=>h.ne e.symm),h.md.trans (m.mono (λ_ _ e=>.inl e))⟩
theorem PL.set(h:PL w0 a b p x w)(i:Nat)(v:Value)(hy:x.cells.setIfInBounds i v=y.cells):PL w0 a b p y (w.setCell ⟨b,i,none⟩ v):=by have m:aa (Only b) w (w.setCell ⟨b,i,none⟩ v):=(aa.refl _ _).bP i v;refine⟨h.pk.ah m (λe=>h.ne e) (λg cs hg e=>hg.apart h.ln (by decide) e),?_,h.md.trans (m.mono (λ_ _ e=>.inr e))⟩;rw[<-hy];exact h.ln.set i v
theorem PL.upd(h:PL w0 a b p x w)(m:aa (Only b) w w')(hb:aq w' b y.cells 47):PL w0 a b p y w' :=
 ⟨h.pk.ah m (λe=>h.ne e) (λg cs hg e=>hg.apart h.ln (by decide) e),hb,h.md.trans (m.mono (λ_ _ e=>.inr e))⟩
theorem PL.Na(h:PL w0 a b p x w)(n:aA):PL w0 a b p {x with n:=n} (((w.setCell ⟨b,11,none⟩ (.int .u64 ((n.v%18446744073709551616:Nat):Int))).setCell ⟨b,12,none⟩ (.bool (decide (18446744073709551616<=n.v)))).setCell ⟨b,13,none⟩ (.bool n.minus)) :=
 h.upd ((((aa.refl _ _).bP 11 _).bP 12 _).bP 13 _) (((h.ln.set 11 _).set 12 _).set 13 _)
theorem PL.Vr(h:PL w0 a b p x w)(n:aA):PL w0 a b p {x with j:=n} (((w.setCell ⟨b,14,none⟩ (.int .u64 ((n.v%18446744073709551616:Nat):Int))).setCell ⟨b,15,none⟩ (.bool (decide (18446744073709551616<=n.v)))).setCell ⟨b,16,none⟩ (.bool n.minus)) :=
 h.upd ((((aa.refl _ _).bP 14 _).bP 15 _).bP 16 _) (((h.ln.set 14 _).set 15 _).set 16 _)
theorem PL.bad(h:PL w0 a b p x w):PL w0 a b ⟨p.ts,true⟩ x (w.setCell ⟨a,1,none⟩ (.bool true)) :=
 h.read h.pk.MZ ((aa.refl _ _).bP 1 _)
end
def DK.other(p:DK)(x:aj):DK×aj :=
 if p.is 100 then((p.take 100).2,{x with i:={x.i with s:=-1},n:=(p.take 100).1.n,hn:=true})
 else(p.fF.2,{x with i:={x.i with s:=p.fF.1}})
theorem gI(a:Nat)(p:DK)(k:Nat)(w:tW)(h:Pk w a p):Calls prog 31 #[.pointer (some ⟨a,0,none⟩),.int .u8 k] w λe w'=>e=.returned (.agg #[.int .u8 (p.take k).1.kind,.string (p.take k).1.s,.int .u64 (((p.take k).1.n.v%18446744073709551616:Nat):Int),.bool (decide (18446744073709551616<=(p.take k).1.n.v)),.bool (p.take k).1.n.minus])/\Pk w' a (p.take k).2/\aa (Only a) w w':=oo a p k w h
theorem Nb(a b:Nat)(p:DK)(x:aj)(w:tW)(h:Pk w a p)(hx:aq w b x.cells 47):Calls prog 64 #[.pointer (some ⟨a,0,none⟩),.pointer (some ⟨b,0,none⟩)] w λe w'=>e=.returned (.tuple #[])/\PL w a b (p.other x).1 (p.other x).2 w':=by
 have HP:ae (PL w a b p x w):=PL.start h hx
 have HO:ae (p.other x=if p.is 100 then((p.take 100).2,{x with i:={x.i with s:=-1},n:=(p.take 100).1.n,hn:=true})
  else(p.fF.2,{x with i:={x.i with s:=p.fF.1}})):=rfl
 have HI:ae (Calls prog 66 #[.pointer (some ⟨a,0,none⟩),.int .u8 100] w λe w'=>e=.returned (.bool (p.is 100))/\aa af w w'):=zD a p 100 w h;clear h hx;generalize p.other x=ox at *;go_enter func64,ntmps64;go_wp2_with fail;refine HI.o.mono ?_;rintro e w1 ⟨rfl,m1⟩;have fq:=ak (HP.o.quiet m1);clear HI HP m1;cases hd:p.is 100 with
 |true =>
  have qM:ae (ox=((p.take 100).2,{x with i:={x.i with s:=-1},n:=(p.take 100).1.n,hn:=true})):=by rw[ae,HO.o,hd,iP9 rfl]
  have HT:=gI a p 100 w1 fq.o.pk;clear HO hd;generalize p.take 100=tq at *;obtain⟨⟨kd,ss,⟨vv,mi⟩⟩,q⟩:=tq;simp only at *
  have HX:ae (∀ww,PL w a b q x ww->PL w a b q {x with i:={x.i with s:=-1},n:=⟨vv,mi⟩,hn:=true} (((((ww.setCell ⟨b,6,none⟩ (.int .i64 (-1))).setCell ⟨b,11,none⟩ (.int .u64 ((vv%18446744073709551616:Nat):Int))).setCell ⟨b,12,none⟩ (.bool (decide (18446744073709551616<=vv)))).setCell ⟨b,13,none⟩ (.bool mi)).setCell ⟨b,17,none⟩ (.bool true))):=λww h =>
   ((h.set (y:={x with i:={x.i with s:=-1}}) 6 (.int .i64 (-1)) rfl).Na ⟨vv,mi⟩).set 17 (.bool true) rfl
  generalize((vv%18446744073709551616:Nat):Int)=uu at *;generalize decide (18446744073709551616<=vv)=bg at *;have Qk:=ak HT;clear HT;go_wp2_with fail;refine Qk.o.mono ?_;rintro e w2 ⟨rfl,p2,m2⟩;have eT:ae (PL w a b q x (w2.alloc (.cells #[.int .u8 kd,.string ss,.int .u64 uu,.bool bg,.bool mi] 94))):=(fq.o.read p2 m2).quiet ((aa.refl _ _).alloc _);have HB2:ae (aq (w2.alloc (.cells #[.int .u8 kd,.string ss,.int .u64 uu,.bool bg,.bool mi] 94)) w2.heap.size #[.int .u8 kd,.string ss,.int .u64 uu,.bool bg,.bool mi] 94):=aq.new _ _ _;clear p2 m2 Qk fq;go_upto_region 3 with fail;generalize w2.alloc (.cells #[.int .u8 kd,.string ss,.int .u64 uu,.bool bg,.bool mi] 94)=w3 at *;generalize w2.heap.size=Y at *;have hne:¬Y=b:=HB2.o.apart eT.o.ln (by decide);have hne2:¬b=Y:=λe=>hne e.symm;have y2:w3.cell? ⟨Y,2,none⟩=some (.int .u64 uu):=HB2.o.cell 2;have y3:w3.cell? ⟨Y,3,none⟩=some (.bool bg):=HB2.o.cell 3;have y4:w3.cell? ⟨Y,4,none⟩=some (.bool mi):=HB2.o.cell 4;have x6:w3.cell? ⟨b,6,none⟩=some (.int .i64 x.i.s):=eT.o.ln.cell 6;have x11:w3.cell? ⟨b,11,none⟩=some (.int .u64 ((x.n.v%18446744073709551616:Nat):Int)):=eT.o.ln.cell 11;have x12:w3.cell? ⟨b,12,none⟩=some (.bool (decide (18446744073709551616<=x.n.v))):=eT.o.ln.cell 12;have x13:w3.cell? ⟨b,13,none⟩=some (.bool x.n.minus):=eT.o.ln.cell 13;have x17:w3.cell? ⟨b,17,none⟩=some (.bool x.hn):=eT.o.ln.cell 17;have fb:=eT.o.ln.frozen;go_wp2_with fail;refine bodyPost_ret (results_none rfl _ _ _) rfl ?_;rw[qM.o];exact⟨rfl,HX.o _ eT.o⟩
 |false =>
  have qM:ae (ox=(p.fF.2,{x with i:={x.i with s:=p.fF.1}})):=by rw[ae,HO.o,hd];rfl
  have HT:ae (Calls prog 63 #[.pointer (some ⟨a,0,none⟩)] w1 λe w'=>e=.returned (.int .i64 p.fF.1)/\Pk w' a p.fF.2/\aa (Only a) w1 w'):=DA a p w1 fq.o.pk;clear HO hd;generalize p.fF=rq at *;obtain⟨r,q⟩:=rq;simp only at *;go_wp2_with fail;refine HT.o.mono ?_;rintro e w2 ⟨rfl,p2,m2⟩;have eT:=ak (fq.o.read p2 m2);have x6:w2.cell? ⟨b,6,none⟩=some (.int .i64 x.i.s):=eT.o.ln.cell 6;have fb:=eT.o.ln.frozen;clear p2 m2 HT fq;go_wp2_with fail;go_end0;rw[qM.o];exact⟨rfl,eT.o.set 6 _ rfl⟩
def DK.jump(p:DK)(x:aj):DK×aj :=
 if p.is 43||p.is 45 then
  (((DK.mk p.ts.tail p.bad).take 100).2.fail ((DK.mk p.ts.tail p.bad).take 100).1.n.minus,{x with j:=⟨((DK.mk p.ts.tail p.bad).take 100).1.n.v,p.is 45⟩})
 else if p.is 100&&(p.ts.headD nS).n.minus then((p.take 100).2,{x with j:=(p.take 100).1.n})
 else(p,x)
def DK.brackets(p:DK)(x:aj):Int×DK×aj :=
 ((p.take 91).2.fF.1,(((p.take 91).2.fF.2.jump {x with hj:=true}).1.take 93).2,((p.take 91).2.fF.2.jump {x with hj:=true}).2)
theorem DK.Jf{p:DK}{k:Nat}(h:p.is k=true):∃t r,p.ts=t::r:=by
 unfold DK.is at h;split at h
 ·cases h
 ·exact⟨_,_,by assumption⟩
theorem Pk.open{w:tW}{a:Nat}{t:aY}{r:List aY}{bad:Bool}(h:Pk w a ⟨t::r,bad⟩):∃g off c n,n=r.length+1/\aq w a #[.slice (some ⟨g,off,none⟩) n c,.bool bad] 92/\n<=c/\c<=maxLen/\(∀j,j<5->w.cell? ⟨g,off+j,none⟩=t.cells[j]?)/\wm w (.slice (some ⟨g,off+5,none⟩) r.length (c-1)) r:=by obtain⟨v,hb,ht⟩:=h;simp only at hb ht;obtain⟨g,off,c,rfl,hc,hm,hcell,htl⟩:=ht.head;exact⟨g,off,c,_,rfl,hb,hc,hm,hcell,htl⟩
theorem PL.tail{w0 w:tW}{a b:Nat}{t:aY}{r:List aY}{bad:Bool}{x:aj}{g off c n:Nat}(h:PL w0 a b ⟨t::r,bad⟩ x w)(hn:n=r.length+1)(hb:aq w a #[.slice (some ⟨g,off,none⟩) n c,.bool bad] 92)(hc:n<=c)(hm:c<=maxLen)(ht:wm w (.slice (some ⟨g,off+5,none⟩) r.length (c-1)) r):(c=1->PL w0 a b ⟨r,bad⟩ x (w.setCell ⟨a,0,none⟩ (.slice (some ⟨g,off,none⟩) (n-1) 0)))/\PL w0 a b ⟨r,bad⟩ x (w.setCell ⟨a,0,none⟩ (.slice (some ⟨g,off+5,none⟩) (n-1) (c-1))):=by
 constructor
 ·intro h1;refine h.read ⟨_,hb.set 0 _,?_⟩ ((aa.refl _ _).bP 0 _);exact⟨_,_,by rw[show n-1=r.length by omega],by simp only;omega,by omega,λh=>by simp only at h;omega⟩
 ·refine h.read ⟨_,hb.set 0 _,?_⟩ ((aa.refl _ _).bP 0 _);refine wm.only ?_ hb (by decide) ((aa.refl _ _).bP 0 _);rw[show n-1=r.length by omega];exact ht
theorem E8(a b:Nat)(p:DK)(x:aj)(w:tW)(h:Pk w a p)(hx:aq w b x.cells 47):Calls prog 65 #[.pointer (some ⟨a,0,none⟩),.pointer (some ⟨b,0,none⟩)] w λe w'=>e=.returned (.int .i64 (p.brackets x).1)/\PL w a b (p.brackets x).2.1 (p.brackets x).2.2 w':=by
 have HP:ae (PL w a b p x w):=PL.start h hx;have HO:ae (p.brackets x=((p.take 91).2.fF.1,(((p.take 91).2.fF.2.jump {x with hj:=true}).1.take 93).2,((p.take 91).2.fF.2.jump {x with hj:=true}).2)):=rfl;have HT:ae (Calls prog 31 #[.pointer (some ⟨a,0,none⟩),.int .u8 91] w λe w'=>e=.returned (p.take 91).1.agg/\Pk w' a (p.take 91).2/\aa (Only a) w w'):=oo a p 91 w h;clear h hx;generalize p.brackets x=ox at *;generalize p.take 91=t91 at *;obtain⟨t1,p1⟩:=t91;simp only at *;go_enter func65,ntmps65;go_wp2_with fail;refine HT.o.mono ?_;rintro e w1 ⟨rfl,k1,m1⟩;have fq:=ak (HP.o.read k1 m1);clear HP HT k1 m1;have HR:ae (Calls prog 63 #[.pointer (some ⟨a,0,none⟩)] w1 λe w'=>e=.returned (.int .i64 p1.fF.1)/\Pk w' a p1.fF.2/\aa (Only a) w1 w'):=DA a p1 w1 fq.o.pk;generalize p1.fF=rq at *;obtain⟨r,p2⟩:=rq;simp only at *;go_wp2_with fail;refine HR.o.mono ?_;rintro e w2 ⟨rfl,k2,m2⟩;have eT:=ak (fq.o.read k2 m2);have x18:w2.cell? ⟨b,18,none⟩=some (.bool x.hj):=eT.o.ln.cell 18;have fb:=eT.o.ln.frozen;have mr:ae (PL w a b p2 {x with hj:=true} (w2.setCell ⟨b,18,none⟩ (.bool true))):=eT.o.set 18 _ rfl;clear fq HR k2 m2;have qM:=ak HO.o;clear HO;go_upto_region 4 with fail;generalize w2.setCell ⟨b,18,none⟩ (.bool true)=w3 at *;clear eT x18 fb;obtain⟨y,hy⟩:∃y:aj,y={x with hj:=true}:=⟨_,rfl⟩
 rw[<-hy]at qM mr;clear hy;go_wp2_with fail;refine(zD a p2 43 w3 mr.o.pk).mono ?_;rintro e w4 ⟨rfl,m4⟩;have xB:=ak (mr.o.quiet m4);clear mr m4;go_wp2_with fail;refine(zD a p2 45 w4 xB.o.pk).mono ?_;rintro e w5 ⟨rfl,m5⟩;have E9:=ak (xB.o.quiet m5);clear xB m5;go_wp2_with fail;refine(zD a p2 100 w5 E9.o.pk).mono ?_;rintro e w6 ⟨rfl,m6⟩;have sW:=ak (E9.o.quiet m6);clear E9 m6;go_upto_block 0 with fail;go_cut [] (λwx=>PL w a b (p2.jump y).1 (p2.jump y).2 wx)
 case first =>
  by_cases hpm:(p2.is 43||p2.is 45)=true
  ·have HJ:ae (p2.jump y=(((DK.mk p2.ts.tail p2.bad).take 100).2.fail ((DK.mk p2.ts.tail p2.bad).take 100).1.n.minus,{y with j:=⟨((DK.mk p2.ts.tail p2.bad).take 100).1.n.v,p2.is 45⟩})):=by rw[ae,DK.jump,iP9 hpm]
   obtain⟨t,l,hts⟩:∃t l,p2.ts=t::l:=by
    rcases Bool.or_eq_true_iff.1 hpm with h|h
    ·exact DK.Jf h
    ·exact DK.Jf h
   have Ct:=ak hpm;clear hpm qM;generalize p2.jump y=jj at *;generalize hpl:p2.is 43=pl at *;generalize hmi:p2.is 45=mi at *;clear hpl hmi;generalize p2.is 100=dd at *;obtain⟨ts2,DB⟩:=p2;simp only at hts;subst hts;simp only[List.tail_cons]at HJ;obtain⟨g,off,c,n,hn,hb,hc,hm,_,htk⟩:=sW.o.pk.open;have HTL:=PL.tail sW.o hn hb hc hm htk;have abN:ae _:=HTL;have c0:w6.cell? ⟨a,0,none⟩=some (.slice (some ⟨g,off,none⟩) n c):=hb.cell 0;have fa:=hb.frozen;have hn0:0<n:=by omega
   clear hn htk HTL sW hb;unfold maxLen at hm;have HG:ae (∃kd ss vv mj q,(DK.mk l DB).take 100=(⟨kd,ss,⟨vv,mj⟩⟩,q)):=⟨_,_,_,_,_,rfl⟩
   obtain⟨kd,ss,vv,mj,q,hG⟩:=HG.o;have Qk:ae (∀ww,Pk ww a ⟨l,DB⟩->Calls prog 31 #[.pointer (some ⟨a,0,none⟩),.int .u8 100] ww λe w'=>e=.returned (.agg #[.int .u8 kd,.string ss,.int .u64 ((vv%18446744073709551616:Nat):Int),.bool (decide (18446744073709551616<=vv)),.bool mj])/\Pk w' a q/\aa (Only a) ww w'):=λww h=>by have:=gI a ⟨l,DB⟩ 100 ww h;rw[hG]at this;exact this
   rw[hG]at HJ;clear HG hG;simp only at HJ;have HB1:ae (∀ww,PL w a b q y ww->PL w a b q {y with j:=⟨vv,mi⟩} ((((ww.setCell ⟨b,14,none⟩ (.int .u64 ((vv%18446744073709551616:Nat):Int))).setCell ⟨b,15,none⟩ (.bool (decide (18446744073709551616<=vv)))).setCell ⟨b,16,none⟩ (.bool mj)).setCell ⟨b,16,none⟩ (.bool mi))):=λww h=>(h.Vr ⟨vv,mj⟩).set 16 (.bool mi) rfl;have HB2:ae (∀ww,PL w a b q y ww->PL w a b ⟨q.ts,true⟩ {y with j:=⟨vv,mi⟩} (((((ww.setCell ⟨b,14,none⟩ (.int .u64 ((vv%18446744073709551616:Nat):Int))).setCell ⟨b,15,none⟩ (.bool (decide (18446744073709551616<=vv)))).setCell ⟨b,16,none⟩ (.bool mj)).setCell ⟨a,1,none⟩ (.bool true)).setCell ⟨b,16,none⟩ (.bool mi))):=λww h=>((h.Vr ⟨vv,mj⟩).bad).set 16 (.bool mi) rfl;generalize((vv%18446744073709551616:Nat):Int)=uu at *;generalize decide (18446744073709551616<=vv)=bg at *;go_upto_region 7 with fail;go_cut [24] (λv wx=>v=.bool true/\wx=w6)
   case first =>
    have hpm:=Ct.o;cases pl with
    |true =>clear hpm Ct;go_wp2_with fail;go_meet;exact⟨rfl,rfl⟩
    |false =>
     obtain rfl:mi=true:=by simpa using hpm
     clear hpm Ct;go_wp2_with fail;go_meet;exact⟨rfl,rfl⟩
   case rest =>
   obtain⟨rfl,rfl⟩:=hcut;clear Ct;go_upto_region 8 with fail;go_cut [] (λwx=>PL w a b ⟨l,DB⟩ y wx)
   case first =>
    go_wp2_with fail
    case inl =>
     rename_i hc1
     go_meet;exact abN.o.1 (by assumption)
    case inr =>go_meet;exact abN.o.2
   case rest =>
   have HPa:=ak hcut;clear hcut abN c0 fa;have hPa:=HPa.o.pk;go_wp2_with fail;refine(Qk.o wc hPa).mono ?_;rintro e w7 ⟨rfl,k7,m7⟩;have KK:ae (PL w a b q y (w7.alloc (.cells #[.int .u8 kd,.string ss,.int .u64 uu,.bool bg,.bool mj] 94))):=(HPa.o.read k7 m7).quiet ((aa.refl _ _).alloc _);have Ql:ae (aq (w7.alloc (.cells #[.int .u8 kd,.string ss,.int .u64 uu,.bool bg,.bool mj] 94)) w7.heap.size #[.int .u8 kd,.string ss,.int .u64 uu,.bool bg,.bool mj] 94):=aq.new _ _ _;clear k7 m7 Qk HPa hPa;go_upto_region 10 with fail;generalize w7.alloc (.cells #[.int .u8 kd,.string ss,.int .u64 uu,.bool bg,.bool mj] 94)=w8 at *;generalize w7.heap.size=Y at *;have hne:¬Y=b:=Ql.o.apart KK.o.ln (by decide);have hne2:¬b=Y:=λe=>hne e.symm;have aez:¬a=b:=KK.o.ne;have ahd:¬b=a:=λe=>aez e.symm;have y2:w8.cell? ⟨Y,2,none⟩=some (.int .u64 uu):=Ql.o.cell 2;have y3:w8.cell? ⟨Y,3,none⟩=some (.bool bg):=Ql.o.cell 3;have y4:w8.cell? ⟨Y,4,none⟩=some (.bool mj):=Ql.o.cell 4;have x14:w8.cell? ⟨b,14,none⟩=some (.int .u64 ((y.j.v%18446744073709551616:Nat):Int)):=KK.o.ln.cell 14;have x15:w8.cell? ⟨b,15,none⟩=some (.bool (decide (18446744073709551616<=y.j.v))):=KK.o.ln.cell 15;have x16:w8.cell? ⟨b,16,none⟩=some (.bool y.j.minus):=KK.o.ln.cell 16;have fb:=KK.o.ln.frozen;have fa:=KK.o.pk.facts.2;have a1:=KK.o.pk.facts.1;cases mj with
   |true =>go_wp2_with fail;go_meet;rw[HJ.o];simp only[DK.ou];exact HB2.o _ KK.o
   |false =>go_wp2_with fail;go_meet;rw[HJ.o];simp only[DK.oZ];exact HB1.o _ KK.o
  ·have ac4:(p2.is 43||p2.is 45)=false:=by simpa using hpm
   obtain⟨h43,h45⟩:=Bool.or_eq_false_iff.1 ac4;have HJ0:ae (p2.jump y=if p2.is 100&&(p2.ts.headD nS).n.minus then((p2.take 100).2,{y with j:=(p2.take 100).1.n})else(p2,y)):=by rw[ae,DK.jump,iN9 hpm]
   clear hpm ac4 qM;generalize p2.jump y=jj at *;generalize p2.is 43=v43 at *;generalize p2.is 45=v45 at *;subst h43 h45;generalize hd:p2.is 100=Cu at *;cases Cu with
   |false =>
    have HJ:ae (jj=(p2,y)):=by rw[ae,HJ0.o];rfl
    clear HJ0;go_wp2_with fail;go_meet;rw[HJ.o];exact sW.o
   |true =>
    obtain⟨t,l,hts⟩:=DK.Jf hd;obtain⟨ts2,DB⟩:=p2;simp only at hts;subst hts;have HJ:ae (jj=if t.n.minus then(((DK.mk (t::l) DB).take 100).2,{y with j:=((DK.mk (t::l) DB).take 100).1.n})else(⟨t::l,DB⟩,y)):=by rw[ae,HJ0.o];rfl
    clear HJ0 hd;obtain⟨g,off,c,n,hn,hb,hc,hm,hcell,htk⟩:=sW.o.pk.open;have c0:w6.cell? ⟨a,0,none⟩=some (.slice (some ⟨g,off,none⟩) n c):=hb.cell 0;have t4:w6.cell? ⟨g,off+4,none⟩=some (.bool t.n.minus):=hcell 4 (by omega);have hn0:0<n:=by omega
    clear hn htk hb hcell;unfold maxLen at hm;cases VI:t.n.minus with
    |false =>rw[VI]at t4 HJ;go_wp2_with fail;go_meet;rw[HJ.o];exact sW.o
    |true =>
     rw[VI]at t4 HJ;simp only[if_true]at HJ;clear VI;have HG:ae (∃kd ss vv mj q,(DK.mk (t::l) DB).take 100=(⟨kd,ss,⟨vv,mj⟩⟩,q)):=⟨_,_,_,_,_,rfl⟩
     obtain⟨kd,ss,vv,mj,q,hG⟩:=HG.o;have HTb:ae (Calls prog 31 #[.pointer (some ⟨a,0,none⟩),.int .u8 100] w6 λe w'=>e=.returned (.agg #[.int .u8 kd,.string ss,.int .u64 ((vv%18446744073709551616:Nat):Int),.bool (decide (18446744073709551616<=vv)),.bool mj])/\Pk w' a q/\aa (Only a) w6 w'):=by have:=gI a ⟨t::l,DB⟩ 100 w6 sW.o.pk;rw[hG]at this;exact this
     rw[hG]at HJ;clear HG hG;simp only at HJ;have HB1:ae (∀ww,PL w a b q y ww->PL w a b q {y with j:=⟨vv,mj⟩} (((ww.setCell ⟨b,14,none⟩ (.int .u64 ((vv%18446744073709551616:Nat):Int))).setCell ⟨b,15,none⟩ (.bool (decide (18446744073709551616<=vv)))).setCell ⟨b,16,none⟩ (.bool mj))):=λww h=>h.Vr ⟨vv,mj⟩;generalize((vv%18446744073709551616:Nat):Int)=uu at *;generalize decide (18446744073709551616<=vv)=bg at *;go_wp2_with fail;refine HTb.o.mono ?_;rintro e w7 ⟨rfl,k7,m7⟩;have KK:ae (PL w a b q y (w7.alloc (.cells #[.int .u8 kd,.string ss,.int .u64 uu,.bool bg,.bool mj] 94))):=(sW.o.read k7 m7).quiet ((aa.refl _ _).alloc _);have Ql:ae (aq (w7.alloc (.cells #[.int .u8 kd,.string ss,.int .u64 uu,.bool bg,.bool mj] 94)) w7.heap.size #[.int .u8 kd,.string ss,.int .u64 uu,.bool bg,.bool mj] 94):=aq.new _ _ _;clear k7 m7 HTb sW c0 t4;go_upto_region 16 with fail;generalize w7.alloc (.cells #[.int .u8 kd,.string ss,.int .u64 uu,.bool bg,.bool mj] 94)=w8 at *;generalize w7.heap.size=Y at *;have hne:¬Y=b:=Ql.o.apart KK.o.ln (by decide);have hne2:¬b=Y:=λe=>hne e.symm;have y2:w8.cell? ⟨Y,2,none⟩=some (.int .u64 uu):=Ql.o.cell 2;have y3:w8.cell? ⟨Y,3,none⟩=some (.bool bg):=Ql.o.cell 3;have y4:w8.cell? ⟨Y,4,none⟩=some (.bool mj):=Ql.o.cell 4;have x14:w8.cell? ⟨b,14,none⟩=some (.int .u64 ((y.j.v%18446744073709551616:Nat):Int)):=KK.o.ln.cell 14;have x15:w8.cell? ⟨b,15,none⟩=some (.bool (decide (18446744073709551616<=y.j.v))):=KK.o.ln.cell 15;have x16:w8.cell? ⟨b,16,none⟩=some (.bool y.j.minus):=KK.o.ln.cell 16;have fb:=KK.o.ln.frozen;go_wp2_with fail;go_meet;rw[HJ.o];exact HB1.o _ KK.o
 case rest =>
 have AJ:=ak hcut;clear hcut sW;generalize p2.jump y=jj at *;obtain⟨p7,y7⟩:=jj;simp only at *;have HT7:ae (Calls prog 31 #[.pointer (some ⟨a,0,none⟩),.int .u8 93] wc λe w'=>e=.returned (p7.take 93).1.agg/\Pk w' a (p7.take 93).2/\aa (Only a) wc w'):=oo a p7 93 wc AJ.o.pk;go_wp2_with fail;refine HT7.o.mono ?_;rintro e w8 ⟨rfl,k8,m8⟩;have Vo:=ak (AJ.o.read k8 m8);clear AJ HT7 k8 m8;go_wp2_with fail;go_ret;rw[qM.o];exact⟨rfl,Vo.o⟩
section
variable (p : DK) (x : aj)
def DK.then:DK×aj:=(p.take 44).2.other x
def DK.qt(base:tBA):DK×aj :=
 if base=NEG then(p.fF.2,{x with i:={x.i with d:=p.fF.1}})else p.fF.2.then {x with i:={x.i with d:=p.fF.1}}
def DK.named(p:DK)(x:aj):DK×aj:=(p.name.2,{x with i:={x.i with label:=p.name.1}})
def DK.Fa(word:tBA):DK×aj :=
 if word=JA then p.named x else((p.fF.2.then {x with i:={x.i with d:=p.fF.1}}).1.take 44).2.named (p.fF.2.then {x with i:={x.i with d:=p.fF.1}}).2
def DK.mK:DK×aj :=
 (((p.fF.2.take 44).2.brackets {x with i:={x.i with d:=p.fF.1}}).2.1,{((p.fF.2.take 44).2.brackets {x with i:={x.i with d:=p.fF.1}}).2.2 with i:={((p.fF.2.take 44).2.brackets {x with i:={x.i with d:=p.fF.1}}).2.2.i with s:=((p.fF.2.take 44).2.brackets {x with i:={x.i with d:=p.fF.1}}).1}})
def DK.RU:DK×aj :=
 (p.brackets x).2.1.then {(p.brackets x).2.2 with i:={(p.brackets x).2.2.i with d:=(p.brackets x).1}}
def DK.BI:DK×aj :=
 (((p.take 110).2.fail (decide ((p.take 110).1.s≠MAP))).name.2,{x with i:={x.i with name:=((p.take 110).2.fail (decide ((p.take 110).1.s≠MAP))).name.1}})
def DK.abo:DK×aj:=((p.take 100).2,{x with n:=(p.take 100).1.n,hn:=true})
def DK.wide:DK×aj:=if p.is 110 then p.BI x else p.abo x
def DK.KL:DK×aj:=(p.fF.2.take 44).2.wide {x with i:={x.i with d:=p.fF.1}}
def DK.AL:DK×aj:=(p.name.2.fail (decide (ahH p.name.1 bO<0)),{x with i:={x.i with label:=p.name.1}})
def DK.RV:DK×aj:=(p.name.2,{x with i:={x.i with name:=p.name.1}})
end
def aj.word(x:aj)(s:tBA):aj:={x with i:={x.i with word:=s}}
def aj.base(x:aj)(s:tBA):aj:={x with i:={x.i with word:=fM s,is32:=decide (fM s≠s)}}
def DK.ins(p:DK)(x:aj)(word:tBA):DK×aj :=
 if aD word=114 then p.qt (x.base word) (fM word)
 else if aD word=106 then p.Fa (x.word word) word
 else if aD word=108 then p.mK (x.word word)
 else if aD word=115 then p.RU (x.word word)
 else if aD word=119 then p.KL (x.word word)
 else if aD word=104 then p.AL (x.word word)
 else if aD word=99 then p.RV (x.word word)
 else if aD word=101 then(p,x.word word)
 else(p.fail true,x.word word)
theorem abO(s:tBA):∃q:Bool,(q=decide (2<s.size/\s.extract (s.size-2) s.size=T [51,50]))/\fM s=(if q then s.extract 0 (s.size-2)else s)/\(decide (fM s≠s)=q):=by
 refine⟨_,rfl,?_,?_⟩
 ·unfold fM;by_cases h:2<s.size/\s.extract (s.size-2) s.size=T [51,50]
  ·rw[iP9 h,decide_eq_true h,iP9 rfl]
  ·rw[iN9 h,decide_eq_false h];rfl
 ·unfold fM;by_cases h:2<s.size/\s.extract (s.size-2) s.size=T [51,50]
  ·rw[iP9 h,decide_eq_true h,decide_eq_true];intro e;have:=congrArg ByteArray.size e;rw[ByteArray.size_extract]at this;omega
  ·rw[iN9 h,decide_eq_false h];simp
theorem lU(w0:tW)(a b:Nat)(p:DK)(x:aj)(k:Nat)(w:tW)(h:PL w0 a b p x w):Calls prog 31 #[.pointer (some ⟨a,0,none⟩),.int .u8 k] w λe w'=>(∃v,e=.returned v)/\PL w0 a b (p.take k).2 x w' :=
 (oo a p k w h.pk).mono (λ_ _ ⟨he,hp,hm⟩=>⟨⟨_,he⟩,h.read hp hm⟩)
theorem wo(w0:tW)(a b:Nat)(p:DK)(x:aj)(w:tW)(h:PL w0 a b p x w):Calls prog 63 #[.pointer (some ⟨a,0,none⟩)] w λe w'=>e=.returned (.int .i64 p.fF.1)/\PL w0 a b p.fF.2 x w' :=
 (DA a p w h.pk).mono (λ_ _ ⟨he,hp,hm⟩=>⟨he,h.read hp hm⟩)
theorem o8(w0:tW)(a b:Nat)(p:DK)(x:aj)(w:tW)(h:PL w0 a b p x w)(hs:p.Small):Calls prog 34 #[.pointer (some ⟨a,0,none⟩)] w λe w'=>e=.returned (.string p.name.1)/\PL w0 a b p.name.2 x w' :=
 (AF a p w h.pk hs).mono (λ_ _ ⟨he,hp,hm⟩=>⟨he,h.read hp hm⟩)
theorem uY(w0:tW)(a b:Nat)(p:DK)(x:aj)(w:tW)(h:PL w0 a b p x w):Calls prog 64 #[.pointer (some ⟨a,0,none⟩),.pointer (some ⟨b,0,none⟩)] w λe w'=>e=.returned (.tuple #[])/\PL w0 a b (p.other x).1 (p.other x).2 w' :=
 (Nb a b p x w h.pk h.ln).mono (λ_ _ ⟨he,hp⟩=>⟨he,hp.pk,hp.ln,h.md.trans hp.md⟩)
theorem BJ(w0:tW)(a b:Nat)(p:DK)(x:aj)(w:tW)(h:PL w0 a b p x w):Calls prog 65 #[.pointer (some ⟨a,0,none⟩),.pointer (some ⟨b,0,none⟩)] w λe w'=>e=.returned (.int .i64 (p.brackets x).1)/\PL w0 a b (p.brackets x).2.1 (p.brackets x).2.2 w' :=
 (E8 a b p x w h.pk h.ln).mono (λ_ _ ⟨he,hp⟩=>⟨he,hp.pk,hp.ln,h.md.trans hp.md⟩)
theorem VJ(w0:tW)(a b:Nat)(p:DK)(x:aj)(k:Nat)(w:tW)(h:PL w0 a b p x w):Calls prog 66 #[.pointer (some ⟨a,0,none⟩),.int .u8 k] w λe w'=>e=.returned (.bool (p.is k))/\PL w0 a b p x w' :=
 (zD a p k w h.pk).mono (λ_ _ ⟨he,hm⟩=>⟨he,h.quiet hm⟩)
