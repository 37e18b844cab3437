import Derived.Test.YthnphhgpfedeeaaGreatDoorCF44
namespace Go.Proofs.YthnphhgpfedeeaaGreatDoor
open Go.RowKit Tryz
open Nat renaming and_two_pow_sub_one_eq_mod->ab,div_le_self->al,lt_of_le_of_lt->an,xor_lt_two_pow->ao,or_lt_two_pow->ar
set_option linter.all false
set_option maxRecDepth 100000
def iw(x:Int):Nat:=(x%18446744073709551616).toNat
def s64(n:Nat):Int:=RowKit.wrap64 (n:Int)
def acA(a k:Nat):Nat:=iw (s64 a/2 ^ k)
def acB(a k:Nat):Nat:=iw (s64 (iw ((a:Int)*4294967296))/4294967296/2 ^ k)
def QB(n:Nat):Nat:=n%4294967296
def ofP(k a b n:Nat):Nat:=match k with
 |0=>iw ((a:Int)+b)
 |1=>iw ((a:Int)-b)
 |2=>iw ((a:Int)*b)
 |3=>if b=0 then 0 else a/b
 |4=>if b=0 then a else a%b
 |5=>a &&& b
 |6=>a ||| b
 |7=>a ^^^ b
 |8=>iw ((a:Int)*2 ^ (b%n))
 |9=>a/2 ^ (b%n)
 |10=>if n=64 then acA a (b%n)else acB a (b%n)
 |_=>iw (-(a:Int))
def rkP(m k:Nat)(d s:MV):Option MV:=match m with
 |0=>some s
 |1=>if s.so=0 then some (kI (QB s.bits))else none
 |2=>if d.so=0/\s.so=0 then some (kI (ofP k d.bits s.bits 64))else none
 |3=>if d.so=0/\s.so=0 then some (kI (QB (ofP k (QB d.bits) (QB s.bits) 32)))else none
 |_=>if d.so=2 then(if s.so=0 then some {d with bits:=ofP k d.bits s.bits 64}else none)else if d.so=0/\s.so=0 then some (kI (ofP k d.bits s.bits 64))else none
def cmP(k a b:Nat):Bool:=match k with
 |0=>decide (b<a)
 |1=>decide (b<=a)
 |2=>decide (a<b)
 |3=>decide (a<=b)
 |_=>decide (a &&& b≠0)
def csP(k:Nat)(a b:Int):Bool:=match k with
 |0=>decide (b<a)
 |1=>decide (b<=a)
 |2=>decide (a<b)
 |_=>decide (a<=b)
def ZT(m k:Nat)(d s:MV):Option Bool:=match m with
 |0=>some (d.Rt s)
 |1=>some (!d.Rt s)
 |2=>if d.so=0/\s.so=0 then some (cmP k d.bits s.bits)else none
 |_=>if d.so=0/\s.so=0 then some (csP k (s64 d.bits) (s64 s.bits))else none
structure yU where
 name:tLB
 key:Nat
 value:Nat
 most:Nat
 jS:List (List Nat×Nat)
structure bP where
 r:aC
 gs:List (List Nat)
 ms:List yU
def xP:yU:=⟨[],0,0,0,[]⟩
def nj(gs:List (List Nat))(v:MV)(n:Nat):List Nat:=((gs.getD (v.aD.getD 0) []).drop (kQ v 0)).take n
def ltNs:List Nat->List Nat->Bool
 |[],[]=>false
 |[],_::_=>true
 |_::_,[]=>false
 |a::l,b::m=>if a<b then true else if b<a then false else ltNs l m
def Cb(l:List (List Nat×Nat))(key:List Nat):Nat:=l.countP (λe=>ltNs e.1 key)
def K8(l:List (List Nat×Nat))(key:List Nat):Bool:=decide (Cb l key<l.length)&&decide ((l.getD (Cb l key) ([],0)).1=key)
def K9(l:List (List Nat×Nat))(key:List Nat):Nat:=(l.getD (Cb l key) ([],0)).2
def bP.mapOf(s:bP)(t:Nat):yU:=s.ms.getD t xP
def bP.ans(s:bP)(v:MV):bP:={s with r:=s.r.answer v}
def bP.t1(s:bP):Nat:=(s.r.aD 1).tab.getD 0
def QC(s:bP):Nat×bP :=
 if(s.r.aD 1).so≠1 then(2,s)
 else if dK s.gs (s.r.aD 2) 0 (s.mapOf s.t1).key≠0 then(dK s.gs (s.r.aD 2) 0 (s.mapOf s.t1).key,s)
 else(0,s.ans (if K8 (s.mapOf s.t1).jS (nj s.gs (s.r.aD 2) (s.mapOf s.t1).key)then uA (K9 (s.mapOf s.t1).jS (nj s.gs (s.r.aD 2) (s.mapOf s.t1).key)) 0 else kI 0))
def Fz(s:bP)(t:Nat)(key val:List Nat):bP×Bool :=
 if K8 (s.mapOf t).jS key then({s with gs:=s.gs.set (K9 (s.mapOf t).jS key) val},true)
 else if(s.mapOf t).jS.length=(s.mapOf t).most then(s,false)
 else({s with gs:=s.gs++[val],ms:=s.ms.set t {s.mapOf t with jS:=(s.mapOf t).jS.take (Cb (s.mapOf t).jS key)++(key,s.gs.length)::(s.mapOf t).jS.drop (Cb (s.mapOf t).jS key)}},true)
def QD(s:bP):Nat×bP :=
 if(s.r.aD 1).so≠1 then(2,s)
 else if dK s.gs (s.r.aD 2) 0 (s.mapOf s.t1).key≠0 then(dK s.gs (s.r.aD 2) 0 (s.mapOf s.t1).key,s)
 else if dK s.gs (s.r.aD 3) 0 (s.mapOf s.t1).value≠0 then(dK s.gs (s.r.aD 3) 0 (s.mapOf s.t1).value,s)
 else(0,(Fz s s.t1 (nj s.gs (s.r.aD 2) (s.mapOf s.t1).key) (nj s.gs (s.r.aD 3) (s.mapOf s.t1).value)).1.ans (kI (if(Fz s s.t1 (nj s.gs (s.r.aD 2) (s.mapOf s.t1).key) (nj s.gs (s.r.aD 3) (s.mapOf s.t1).value)).2 then 0 else 1)))
def FB(s:bP)(t:Nat)(key:List Nat):bP×Bool :=
 if K8 (s.mapOf t).jS key then({s with gs:=s.gs.set (K9 (s.mapOf t).jS key) [],ms:=s.ms.set t {s.mapOf t with jS:=(s.mapOf t).jS.take (Cb (s.mapOf t).jS key)++(s.mapOf t).jS.drop (Cb (s.mapOf t).jS key+1)}},true)
 else(s,false)
def QF(s:bP):Nat×bP :=
 if(s.r.aD 1).so≠1 then(2,s)
 else if dK s.gs (s.r.aD 2) 0 (s.mapOf s.t1).key≠0 then(dK s.gs (s.r.aD 2) 0 (s.mapOf s.t1).key,s)
 else(0,(FB s s.t1 (nj s.gs (s.r.aD 2) (s.mapOf s.t1).key)).1.ans (kI (if(FB s s.t1 (nj s.gs (s.r.aD 2) (s.mapOf s.t1).key)).2 then 0 else 1)))
def IL(s:bP):Nat×bP :=
 if(s.r.aD 1).so≠0 then(2,s)
 else if s.r.log.length=20 then(5,s)
 else(0,{s with r:=s.r.logged (s.r.aD 1).bits})
def nN(aD:Bool)(x:PI)(s:bP):MV:=if aD then s.r.aD x.s else kI (iw x.num)
def PI.UQ(x:PI):Nat:=(x.high%4294967296).toNat*4294967296+(x.num%4294967296).toNat
def doP(d:VS)(x:PI)(s:bP):Nat×bP:=match d.t with
 |0=>match rkP d.m d.k (s.r.aD x.d) (nN d.aD x s)with
  |none=>(2,s)
  |some v=>(0,{s with r:=s.r.eY x.d v})
 |1=>match ZT d.m d.k (s.r.aD x.d) (nN d.aD x s)with
  |none=>(2,s)
  |some b=>(0,if b then{s with r:=s.r.fQ (x.target s.r.top.slot).toNat}else s)
 |2=>(0,{s with r:=s.r.fQ (x.target s.r.top.slot).toNat})
 |3=>if dK s.gs (s.r.aD x.s) x.jump d.k=0 then(0,{s with r:=s.r.eY x.d (kI (DS s.gs (s.r.aD x.s) x.jump d.k))})else(dK s.gs (s.r.aD x.s) x.jump d.k,s)
 |4=>if storeT s.gs (s.r.aD x.d) x.jump d.k (nN d.aD x s)=0 then(0,{s with gs:=B6 s.gs (s.r.aD x.d) x.jump d.k (nN d.aD x s)})else(storeT s.gs (s.r.aD x.d) x.jump d.k (nN d.aD x s),s)
 |5=>(0,{s with r:=s.r.eY x.d (if x.s=1 then mmap x.num.toNat else kI x.UQ)})
 |6=>if x.s=1 then(if s.r.calls.length=8 then(4,s)else(0,{s with r:=s.r.mo x.num.toNat s.gs.length,gs:=s.gs++[bu]}))
  else if x.num=1 then QC s else if x.num=2 then QD s else if x.num=3 then QF s else IL s
 |_=>if s.r.calls.length=1 then(if(s.r.aD 0).so=0 then(0,{s with r:=s.r.finish (s.r.aD 0).bits})else(2,s))
  else(0,{s with r:=s.r.back,gs:=s.gs.set s.r.top.oJ []})
def acC:PI:=⟨0,0,0,0,0,0,[]⟩
def yV(fs:List aS)(fn slot:Nat):PI:=match (atS 0 (fs.getD fn ⟨[],[]⟩).code).find? (λp=>p.2==slot)with
 |none=>acC
 |some p=>p.1
def bP.ins(fs:List aS)(s:bP):PI:=yV fs s.r.top.fn s.r.top.slot
def bP.begin(s:bP)(n:Nat):bP:={s with r:=s.r.begin n}
def bP.gx(s:bP):bP:={s with r:=s.r.gx}
def bP.did(fs:List aS)(s:bP):Nat×bP:=doP (dz (s.ins fs).o.code) (s.ins fs) (s.begin (s.ins fs).o.slots)
def gD(fs:List aS)(s:bP):Nat×bP :=
 if s.r.used=s.r.fuel then(1,s)
 else if(s.did fs).1=0 then(0,(s.did fs).2.gx)else s.did fs
def followP(fs:List aS):Nat->bP->Nat×bP
 |0,s=>(0,s)
 |n+1,s=>if s.r.ended then(0,s)else if(gD fs s).1=0 then followP fs n (gD fs s).2 else gD fs s
structure La where
 trap:Nat:=0
 fn:tLB:=[]
 slot:Nat:=0
 r0:Nat:=0
 inp:List Nat:=[]
 log:List Nat:=[]
 used:Nat:=0
def tK(fs:List aS)(d:Nat×bP):La :=
 if d.1=0 then⟨0,[],0,d.2.r.r0,d.2.gs.getD d.2.r.inp [],d.2.r.log,d.2.r.used⟩
 else⟨d.1,(fs.getD d.2.r.top.fn ⟨[],[]⟩).name,d.2.r.top.slot,d.2.r.r0,d.2.gs.getD d.2.r.inp [],d.2.r.log,d.2.r.used⟩
def Mt(fuel:Int):Nat:=(min (max fuel 0) 5000).toNat
def qJ(gs:List (List Nat))(ms:List yU)(fn:Nat)(inp:tBA)(fuel:Int):bP:=⟨DT fn (Mt fuel) gs.length (mq inp).size,gs++[ic (mq inp)]++[bu],ms⟩
def FC(fs:List aS)(gs:List (List Nat))(ms:List yU)(fn:Nat)(inp:tBA)(fuel:Int):Nat×bP:=followP fs (Mt fuel+2) (qJ gs ms fn inp fuel)
def xQ(fs:List aS)(name:tLB):Option Nat:=fs.findIdx? (λf=>f.name==name)
def tL(fs:List aS)(gs:List (List Nat))(ms:List yU)(name:tLB)(inp:tBA)(fuel:Int):La×List (List Nat)×List yU:=match xQ fs name with
 |none=>({},gs,ms)
 |some fn=>(tK fs (FC fs gs ms fn inp fuel),(FC fs gs ms fn inp fuel).2.gs,(FC fs gs ms fn inp fuel).2.ms)
def jB(ms:List az):List yU:=ms.map λm=>⟨m.name,m.key,m.value,m.entries,[]⟩
theorem uk(x:Int):IntKind.u64.wrap x=((iw x:Nat):Int):=by unfold iw;simp only[IntKind.wrap,IntKind.bits,IntKind.signed,Bool.false_and,Bool.false_eq_true,if_false];omega
theorem ajn(x:Int):iw x<18446744073709551616:=by unfold iw;omega
theorem af5(n:Nat)(h:n<18446744073709551616):iw (n:Int)=n:=by unfold iw;omega
theorem E7(a b:Nat)(ha:a<18446744073709551616)(hb:b<18446744073709551616):bits .and .u64 a b=((a &&& b:Nat):Int)/\bits .or .u64 a b=((a ||| b:Nat):Int)/\bits .xor .u64 a b=((a ^^^ b:Nat):Int):=by
 have e:∀n:Nat,n<18446744073709551616->(BitVec.ofInt 64 (n:Int)).toNat=n:=λn h=>by rw[BitVec.toNat_ofInt];omega
 have l:∀n:Nat,n<18446744073709551616->IntKind.u64.wrap (n:Int)=n:=λn h=>by rw[uk,af5 n h]
 have h1:a &&& b<18446744073709551616:=an Nat.and_le_left ha;have h2:a ||| b<18446744073709551616:=ar (n:=64) ha hb;have h3:a ^^^ b<18446744073709551616:=ao (n:=64) ha hb;refine⟨?_,?_,?_⟩
 ·show IntKind.u64.wrap (((BitVec.ofInt 64 (a:Int)) &&& (BitVec.ofInt 64 (b:Int))).toNat:Int)=_
  rw[BitVec.toNat_and,e a ha,e b hb,l _ h1]
 ·show IntKind.u64.wrap (((BitVec.ofInt 64 (a:Int)) |||(BitVec.ofInt 64 (b:Int))).toNat:Int)=_
  rw[BitVec.toNat_or,e a ha,e b hb,l _ h2]
 ·show IntKind.u64.wrap (((BitVec.ofInt 64 (a:Int)) ^^^ (BitVec.ofInt 64 (b:Int))).toNat:Int)=_
  rw[BitVec.toNat_xor,e a ha,e b hb,l _ h3]
theorem ahZ(b:Nat):b &&& 63=b%64:=ab b 6
theorem ah0(b:Nat):b &&& 31=b%32:=ab b 5
theorem agc(w:tW)(b n:Nat)(hb:b<18446744073709551616)(hn:n=64\/n=32):Calls prog 198 #[.int .u64 b,.int .u64 n] w λe w'=>e=.returned (.int .u64 ((b%n:Nat):Int))/\w'=w:=by
 rcases hn with rfl|rfl
 ·have h:=(E7 b 63 hb (by omega)).1;rw[ahZ]at h;have H:=ai h;clear h;go_enter func198,ntmps198;go_wp2_with fail;go_ret;exact⟨congrArg (λx=>Ending.returned (.int .u64 x)) H.o,rfl⟩
 ·have h:=(E7 b 31 hb (by omega)).1;rw[ah0]at h;have H:=ai h;clear h;go_enter func198,ntmps198;go_wp2_with fail;go_ret;exact⟨congrArg (λx=>Ending.returned (.int .u64 x)) H.o,rfl⟩
theorem agk(w:tW)(a:Nat)(ha:a<18446744073709551616):Calls prog 209 #[.int .u64 a] w λe w'=>e=.returned (.int .u64 (QB a))/\w'=w:=by
 have H:af ((a:Int)%4294967296=((QB a:Nat):Int)):=by unfold af QB;omega
 go_enter func209,ntmps209;go_wp2_with fail;go_ret;exact⟨congrArg (λx=>Ending.returned (.int .u64 x)) H.o,rfl⟩
theorem aex(w:tW)(a b n:Nat):Calls prog 188 #[.int .u64 a,.int .u64 b,.int .u64 n] w λe w'=>e=.returned (.int .u64 (ofP 0 a b n))/\w'=w:=by go_enter func188,ntmps188;go_wp2_with fail;go_ret;exact⟨congrArg (λx=>Ending.returned (.int .u64 x)) (uk _),rfl⟩
theorem aey(w:tW)(a b n:Nat):Calls prog 189 #[.int .u64 a,.int .u64 b,.int .u64 n] w λe w'=>e=.returned (.int .u64 (ofP 1 a b n))/\w'=w:=by go_enter func189,ntmps189;go_wp2_with fail;go_ret;exact⟨congrArg (λx=>Ending.returned (.int .u64 x)) (uk _),rfl⟩
theorem aez(w:tW)(a b n:Nat):Calls prog 191 #[.int .u64 a,.int .u64 b,.int .u64 n] w λe w'=>e=.returned (.int .u64 (ofP 2 a b n))/\w'=w:=by go_enter func191,ntmps191;go_wp2_with fail;go_ret;exact⟨congrArg (λx=>Ending.returned (.int .u64 x)) (uk _),rfl⟩
theorem ah1(w:tW)(a b n:Nat):Calls prog 114 #[.int .u64 a,.int .u64 b,.int .u64 n] w λe w'=>e=.returned (.int .u64 (ofP 11 a b n))/\w'=w:=by go_enter func114,ntmps114;go_wp2_with fail;go_ret;exact⟨congrArg (λx=>Ending.returned (.int .u64 x)) (uk _),rfl⟩
theorem aiV(w:tW)(a b n:Nat)(ha:a<18446744073709551616):Calls prog 192 #[.int .u64 a,.int .u64 b,.int .u64 n] w λe w'=>e=.returned (.int .u64 (ofP 3 a b n))/\w'=w:=by
 have H:af (IntKind.u64.wrap ((a:Int) /(b:Int))=((a/b:Nat):Int)):=by unfold af;have:a/b<=a:=al a b;rw[show((a:Int) /(b:Int))=((a/b:Nat):Int)from(Int.natCast_ediv a b).symm,uk,af5 _ (by omega)]
 clear ha;by_cases h0:b=0
 ·subst h0;go_enter func192,ntmps192;go_wp2_with fail;go_ret;exact⟨rfl,rfl⟩
 ·have h1:((b:Int)==0)=false:=by simp;omega
  have h2:¬(b:Int)=0:=by omega
  have HR:af (ofP 3 a b n=a/b):=iN9 h0;clear h0;go_enter func192,ntmps192;go_wp2_with fail;go_ret;exact⟨congrArg (λx=>Ending.returned (.int .u64 x)) (by rw[HR.o];exact H.o),rfl⟩
theorem aiW(w:tW)(a b n:Nat):Calls prog 193 #[.int .u64 a,.int .u64 b,.int .u64 n] w λe w'=>e=.returned (.int .u64 (ofP 4 a b n))/\w'=w:=by
 by_cases h0:b=0
 ·subst h0;go_enter func193,ntmps193;go_wp2_with fail;go_ret;exact⟨rfl,rfl⟩
 ·have h1:((b:Int)==0)=false:=by simp;omega
  have h2:¬(b:Int)=0:=by omega
  have HR:af (ofP 4 a b n=a%b):=iN9 h0;clear h0;go_enter func193,ntmps193;go_wp2_with fail;go_ret;exact⟨congrArg (λx=>Ending.returned (.int .u64 x)) (by rw[HR.o];exact(Int.natCast_emod a b).symm),rfl⟩
theorem aiX(w:tW)(a b n:Nat)(ha:a<18446744073709551616)(hb:b<18446744073709551616):Calls prog 194 #[.int .u64 a,.int .u64 b,.int .u64 n] w λe w'=>e=.returned (.int .u64 (ofP 5 a b n))/\w'=w:=by have H:=ai (E7 a b ha hb).1;go_enter func194,ntmps194;go_wp2_with fail;go_ret;exact⟨congrArg (λx=>Ending.returned (.int .u64 x)) (H.o),rfl⟩
theorem aiY(w:tW)(a b n:Nat)(ha:a<18446744073709551616)(hb:b<18446744073709551616):Calls prog 195 #[.int .u64 a,.int .u64 b,.int .u64 n] w λe w'=>e=.returned (.int .u64 (ofP 6 a b n))/\w'=w:=by have H:=ai (E7 a b ha hb).2.1;go_enter func195,ntmps195;go_wp2_with fail;go_ret;exact⟨congrArg (λx=>Ending.returned (.int .u64 x)) (H.o),rfl⟩
theorem aiZ(w:tW)(a b n:Nat)(ha:a<18446744073709551616)(hb:b<18446744073709551616):Calls prog 196 #[.int .u64 a,.int .u64 b,.int .u64 n] w λe w'=>e=.returned (.int .u64 (ofP 7 a b n))/\w'=w:=by have H:=ai (E7 a b ha hb).2.2;go_enter func196,ntmps196;go_wp2_with fail;go_ret;exact⟨congrArg (λx=>Ending.returned (.int .u64 x)) (H.o),rfl⟩
theorem ai0(w:tW)(a b n:Nat)(ha:a<18446744073709551616)(hb:b<18446744073709551616)(hn:n=64\/n=32):Calls prog 197 #[.int .u64 a,.int .u64 b,.int .u64 n] w λe w'=>e=.returned (.int .u64 (ofP 8 a b n))/\w'=w:=by
 have HS:af (∀w,Calls prog 198 #[.int .u64 b,.int .u64 n] w λe w'=>e=.returned (.int .u64 ((b%n:Nat):Int))/\w'=w):=λw=>agc w b n hb hn;have hk:b%n<64:=by rcases hn with rfl|rfl<;>omega
 have HR:af (ofP 8 a b n=iw ((a:Int)*2 ^ (b%n))):=rfl;clear ha hb hn;generalize ofP 8 a b n=R at *;generalize b%n=k at *;go_enter func197,ntmps197;go_wp2_with fail;refine(HS.o _).mono ?_;rintro e w1 ⟨rfl,rfl⟩;go_wp2_with fail;go_ret;exact⟨congrArg (λx=>Ending.returned (.int .u64 x)) (by rw[HR.o];exact uk _),rfl⟩
theorem ai1(w:tW)(a b n:Nat)(ha:a<18446744073709551616)(hb:b<18446744073709551616)(hn:n=64\/n=32):Calls prog 199 #[.int .u64 a,.int .u64 b,.int .u64 n] w λe w'=>e=.returned (.int .u64 (ofP 9 a b n))/\w'=w:=by
 have HS:af (∀w,Calls prog 198 #[.int .u64 b,.int .u64 n] w λe w'=>e=.returned (.int .u64 ((b%n:Nat):Int))/\w'=w):=λw=>agc w b n hb hn;have hk:b%n<64:=by rcases hn with rfl|rfl<;>omega
 have HR:af (((ofP 9 a b n:Nat):Int)=(a:Int)/2 ^ (b%n)):=by
  unfold af;show((a/2 ^ (b%n):Nat):Int)=_
  rw[Int.natCast_ediv,Int.natCast_pow];rfl
 clear ha hb hn;generalize ofP 9 a b n=R at *;generalize b%n=k at *;go_enter func199,ntmps199;go_wp2_with fail;refine(HS.o _).mono ?_;rintro e w1 ⟨rfl,rfl⟩;go_wp2_with fail;go_ret;exact⟨congrArg (λx=>Ending.returned (.int .u64 x)) (HR.o.symm),rfl⟩
theorem ag3(a b:Nat):ofP 10 a b 32=acB a (b%32):=by simp[ofP]
theorem ag4(a b:Nat):ofP 10 a b 64=acA a (b%64):=by simp[ofP]
theorem ah2(w:tW)(a b n:Nat)(ha:a<18446744073709551616)(hb:b<18446744073709551616)(hn:n=64\/n=32):Calls prog 200 #[.int .u64 a,.int .u64 b,.int .u64 n] w λe w'=>e=.returned (.int .u64 (ofP 10 a b n))/\w'=w:=by
 have HS:af (∀w,Calls prog 198 #[.int .u64 b,.int .u64 n] w λe w'=>e=.returned (.int .u64 ((b%n:Nat):Int))/\w'=w):=λw=>agc w b n hb hn;have hk:b%n<64:=by rcases hn with rfl|rfl<;>omega
 rcases hn with rfl|rfl
 ·rw[ag4 a b];generalize b%64=k at *;have HR:af (acA a k=iw (RowKit.wrap64 (a:Int)/2 ^ k)):=by unfold af acA s64;rfl
  generalize acA a k=R at *;go_enter func200,ntmps200;go_wp2_with fail;refine(HS.o _).mono ?_;rintro e w1 ⟨rfl,rfl⟩;go_wp2_with fail;go_ret;exact⟨congrArg (λx=>Ending.returned (.int .u64 x)) (by rw[HR.o];exact uk _),rfl⟩
 ·rw[ag3 a b];generalize b%32=k at *;have HR:af (acB a k=iw (RowKit.wrap64 ((iw ((a:Int)*4294967296):Nat):Int)/4294967296/2 ^ k)):=by unfold af acB s64;rfl
  generalize acB a k=R at *;go_enter func200,ntmps200;go_wp2_with fail;refine(HS.o _).mono ?_;rintro e w1 ⟨rfl,rfl⟩;go_wp2_with fail;go_ret;exact⟨congrArg (λx=>Ending.returned (.int .u64 x)) (by rw[HR.o,uk,uk]),rfl⟩
theorem agD(w:tW)(k a b n:Nat)(ha:a<18446744073709551616)(hb:b<18446744073709551616)(hn:n=64\/n=32):Calls prog (FQ k) #[.int .u64 a,.int .u64 b,.int .u64 n] w λe w'=>e=.returned (.int .u64 (ofP k a b n))/\w'=w:=match k with
 |0=>aex w a b n
 |1=>aey w a b n
 |2=>aez w a b n
 |3=>aiV w a b n ha
 |4=>aiW w a b n
 |5=>aiX w a b n ha hb
 |6=>aiY w a b n ha hb
 |7=>aiZ w a b n ha hb
 |8=>ai0 w a b n ha hb hn
 |9=>ai1 w a b n ha hb hn
 |10=>ah2 w a b n ha hb hn
 |_+11=>ah1 w a b n
theorem agE(k:Nat):pE (FQ k):=match k with
 |0=>enters_of func188 (by kernel_rfl) rfl
 |1=>enters_of func189 (by kernel_rfl) rfl
 |2=>enters_of func191 (by kernel_rfl) rfl
 |3=>enters_of func192 (by kernel_rfl) rfl
 |4=>enters_of func193 (by kernel_rfl) rfl
 |5=>enters_of func194 (by kernel_rfl) rfl
 |6=>enters_of func195 (by kernel_rfl) rfl
 |7=>enters_of func196 (by kernel_rfl) rfl
 |8=>enters_of func197 (by kernel_rfl) rfl
 |9=>enters_of func199 (by kernel_rfl) rfl
 |10=>enters_of func200 (by kernel_rfl) rfl
 |_+11=>enters_of func114 (by kernel_rfl) rfl
theorem Lc(k a b n:Nat)(ha:a<18446744073709551616)(hb:b<18446744073709551616):ofP k a b n<18446744073709551616:=by
 unfold ofP;split
 ·exact ajn _
 ·exact ajn _
 ·exact ajn _
 ·split
  ·omega
  ·have:a/b<=a:=al a b;omega
 ·split
  ·exact ha
  ·have:a%b<=a:=Nat.mod_le a b;omega
 ·exact an Nat.and_le_left ha
 ·exact ar (n:=64) ha hb
 ·exact ao (n:=64) ha hb
 ·exact ajn _
 ·have:a/2 ^ (b%n)<=a:=al a _;omega
 ·split
  ·exact ajn _
  ·exact ajn _
 ·exact ajn _
theorem Mu(n:Nat):QB n<18446744073709551616:=by unfold QB;omega
theorem aob(w:tW)(a b:Nat):Calls prog 220 #[.int .u64 a,.int .u64 b] w λe w'=>e=.returned (.bool (cmP 0 a b))/\w'=w:=by go_enter func220,ntmps220;go_wp2_with fail;go_ret;exact⟨rfl,rfl⟩
theorem aoc(w:tW)(a b:Nat):Calls prog 221 #[.int .u64 a,.int .u64 b] w λe w'=>e=.returned (.bool (cmP 1 a b))/\w'=w:=by go_enter func221,ntmps221;go_wp2_with fail;go_ret;exact⟨rfl,rfl⟩
theorem aod(w:tW)(a b:Nat):Calls prog 222 #[.int .u64 a,.int .u64 b] w λe w'=>e=.returned (.bool (cmP 2 a b))/\w'=w:=by go_enter func222,ntmps222;go_wp2_with fail;go_ret;exact⟨rfl,rfl⟩
theorem aoe(w:tW)(a b:Nat):Calls prog 223 #[.int .u64 a,.int .u64 b] w λe w'=>e=.returned (.bool (cmP 3 a b))/\w'=w:=by go_enter func223,ntmps223;go_wp2_with fail;go_ret;exact⟨rfl,rfl⟩
theorem aof(w:tW)(a b:Nat)(ha:a<18446744073709551616)(hb:b<18446744073709551616):Calls prog 229 #[.int .u64 a,.int .u64 b] w λe w'=>e=.returned (.bool (cmP 4 a b))/\w'=w:=by
 have h:=(E7 a b ha hb).1
 have HR:af (((bits .and .u64 a b) != 0)=cmP 4 a b):=by
  unfold af;rw[h];show _=decide (a &&& b≠0)
  rw[Bool.eq_iff_iff];simp
 clear h;go_enter func229,ntmps229;go_wp2_with fail;go_ret;exact⟨congrArg (λx=>Ending.returned (.bool x)) HR.o,rfl⟩
theorem aog(w:tW)(a b:Int):Calls prog 225 #[.int .i64 a,.int .i64 b] w λe w'=>e=.returned (.bool (csP 0 a b))/\w'=w:=by go_enter func225,ntmps225;go_wp2_with fail;go_ret;exact⟨rfl,rfl⟩
theorem aoh(w:tW)(a b:Int):Calls prog 226 #[.int .i64 a,.int .i64 b] w λe w'=>e=.returned (.bool (csP 1 a b))/\w'=w:=by go_enter func226,ntmps226;go_wp2_with fail;go_ret;exact⟨rfl,rfl⟩
theorem aoi(w:tW)(a b:Int):Calls prog 227 #[.int .i64 a,.int .i64 b] w λe w'=>e=.returned (.bool (csP 2 a b))/\w'=w:=by go_enter func227,ntmps227;go_wp2_with fail;go_ret;exact⟨rfl,rfl⟩
theorem aoj(w:tW)(a b:Int):Calls prog 228 #[.int .i64 a,.int .i64 b] w λe w'=>e=.returned (.bool (csP 3 a b))/\w'=w:=by go_enter func228,ntmps228;go_wp2_with fail;go_ret;exact⟨rfl,rfl⟩
theorem anz(w:tW)(k a b:Nat)(ha:a<18446744073709551616)(hb:b<18446744073709551616):Calls prog (cmF k) #[.int .u64 a,.int .u64 b] w λe w'=>e=.returned (.bool (cmP k a b))/\w'=w:=match k with
 |0=>aob w a b
 |1=>aoc w a b
 |2=>aod w a b
 |3=>aoe w a b
 |_+4=>aof w a b ha hb
theorem anA(w:tW)(k:Nat)(a b:Int):Calls prog (csF k) #[.int .i64 a,.int .i64 b] w λe w'=>e=.returned (.bool (csP k a b))/\w'=w:=match k with
 |0=>aog w a b
 |1=>aoh w a b
 |2=>aoi w a b
 |_+3=>aoj w a b
theorem anB(k:Nat):pE (cmF k):=match k with
 |0=>enters_of func220 (by kernel_rfl) rfl
 |1=>enters_of func221 (by kernel_rfl) rfl
 |2=>enters_of func222 (by kernel_rfl) rfl
 |3=>enters_of func223 (by kernel_rfl) rfl
 |_+4=>enters_of func229 (by kernel_rfl) rfl
theorem anC(k:Nat):pE (csF k):=match k with
 |0=>enters_of func225 (by kernel_rfl) rfl
 |1=>enters_of func226 (by kernel_rfl) rfl
 |2=>enters_of func227 (by kernel_rfl) rfl
 |_+3=>enters_of func228 (by kernel_rfl) rfl
def Ty(w:tW)(k:Nat)(t:TypeId):Prop:=∃cs fr,w.heap[k]?=some (.cells cs t fr)
theorem Ty.one{w:tW}{k:Nat}{t u:TypeId}(h:Ty w k t)(h':Ty w k u):t=u:=by obtain⟨cs,fr,e⟩:=h;obtain⟨cs',fr',e'⟩:=h';rw[e]at e';injection e' with e';injection e' with _ e' _
theorem ak.ty{w:tW}{b:Nat}{cs:tAV}{t:TypeId}(h:ak w b cs t):Ty w b t:=⟨cs,_,h⟩
theorem Sl.ty{w:tW}{e:TypeId}{size n k:Nat}{v:Value}{xs:List Value}(h:Sl w e size v n xs)(hk:v.ownBlock=some k):Ty w k e:=by
 rcases h.2 with⟨rfl,_⟩ |⟨g,cap,cur,rfl,_,hg,_⟩
 ·cases hk
 ·cases hk;exact⟨_,_,hg⟩
theorem pH.ty{w:tW}{n k:Nat}{v:Value}{l:List Nat}(h:pH w v n l)(hk:v.ownBlock=some k):Ty w k 5:=by
 rcases h.2 with⟨rfl,_⟩ |⟨g,cap,cur,lo,hi,rfl,hg,_⟩
 ·cases hk
 ·cases hk;exact⟨_,_,hg⟩
def iL(L:List TypeId)(w w':tW):Prop:=aa (λk=>∃t∈L,Ty w k t) w w'
section
variable {w w' : World} {L : List TypeId}
theorem iL.of{S:Nat->Prop}(m:aa S w w')(h:∀k,S k->∃t∈L,Ty w k t):iL L w w':=m.mono (λk _ hk=>h k hk)
theorem Ty.nt{k:Nat}{t:TypeId}(h:Ty w k t)(hL:t ∉ L):¬ ∃u∈L,Ty w k u:=fun⟨u,hu,hk⟩=>hL (h.one hk ▸ hu)
theorem ak.eG{b:Nat}{cs:tAV}{t:TypeId}(h:ak w b cs t)(m:iL L w w')(hL:t ∉ L):ak w' b cs t:=h.ag m (h.ty.nt hL)
theorem Sl.eG{e:TypeId}{size n:Nat}{v:Value}{xs:List Value}(h:Sl w e size v n xs)(m:iL L w w')(hL:e ∉ L):Sl w' e size v n xs:=h.ag m (λ_ hk=>(h.ty hk).nt hL)
theorem pH.eG{n:Nat}{v:Value}{l:List Nat}(h:pH w v n l)(m:iL L w w')(hL:5 ∉ L):pH w' v n l:=h.ag m (λ_ hk=>(h.ty hk).nt hL)
theorem nJ.eG{rb:List Nat}{vs:List Value}{gs:List (List Nat)}(h:nJ w rb vs gs)(m:iL L w w')(h1:122 ∉ L)(h2:5 ∉ L):nJ w' rb vs gs :=
 ⟨h.lr,h.lv,λi hi=>(h.blk i hi).eG m h1,λi hi=>(h.sl i hi).eG m h2,h.inj,h.IG⟩
theorem aB.eG{b:Nat}{rb mb:List Nat}{vM vC vL:Value}{r:aC}(h:aB w b rb mb vM vC vL r)(m:iL L w w')(h1:125 ∉ L)(h2:190 ∉ L):aB w' b rb mb vM vC vL r :=
 ⟨h.blk.eG m h1,h.calls.eG m h2,h.regs,h.depth⟩
end
def meC(rb:List Nat)(e:List Nat×Nat):List Value:=[.string (strOf e.1),.pointer (some ⟨rb.getD e.2 0,0,none⟩)]
structure tM(w:tW)(rb mb:List Nat)(vM:Value)(ve:List Value)(ms:List yU):Prop where
 lm:mb.length=ms.length
 le:ve.length=ms.length
 zx:Sl w 82 1 vM ms.length (mb.flatMap Wf)
 blk:∀i,i<ms.length->ak w (mb.getD i 0) #[.string (T (ms.getD i xP).name),.int .i64 (ms.getD i xP).key,.int .i64 (ms.getD i xP).value,.int .i64 (ms.getD i xP).most,ve.getD i undef] 85
 sl:∀i,i<ms.length->Sl w 148 2 (ve.getD i undef) (ms.getD i xP).jS.length ((ms.getD i xP).jS.flatMap (meC rb))
 inj:∀i j,i<ms.length->j<ms.length->mb.getD i 0=mb.getD j 0->i=j
 Yo:∀i j k,i<ms.length->j<ms.length->(ve.getD i undef).ownBlock=some k->(ve.getD j undef).ownBlock=some k->i=j
theorem tM.eG{w w':tW}{L:List TypeId}{rb mb:List Nat}{vM:Value}{ve:List Value}{ms:List yU}(h:tM w rb mb vM ve ms)(m:iL L w w')(h1:82 ∉ L)(h2:85 ∉ L)(h3:148 ∉ L):tM w' rb mb vM ve ms :=
 ⟨h.lm,h.le,h.zx.eG m h1,λi hi=>(h.blk i hi).eG m h2,λi hi=>(h.sl i hi).eG m h3,h.inj,h.Yo⟩
theorem tM.quiet{w w':tW}{rb mb:List Nat}{vM:Value}{ve:List Value}{ms:List yU}(h:tM w rb mb vM ve ms)(m:aa ae w w'):tM w' rb mb vM ve ms :=
 ⟨h.lm,h.le,h.zx.ag m (λ_ _=>id),λi hi=>(h.blk i hi).ag m id,λi hi=>(h.sl i hi).ag m (λ_ _=>id),h.inj,h.Yo⟩
def yU.In(m:yU)(n:Nat):Prop:=∀e∈m.jS,e.2<n
theorem UR(rb:List Nat)(x:Nat)(l:List (List Nat×Nat))(h:∀e∈l,e.2<rb.length):l.flatMap (meC (rb++[x]))=l.flatMap (meC rb) :=
 mf _ _ l (λe he=>by unfold meC;rw[jR _ _ _ _ (h e he)])
theorem tM.grow{w:tW}{rb mb:List Nat}{vM:Value}{ve:List Value}{ms:List yU}(h:tM w rb mb vM ve ms)(x:Nat)(hi:∀m∈ms,m.In rb.length):tM w (rb++[x]) mb vM ve ms :=
 ⟨h.lm,h.le,h.zx,h.blk,λi hi'=>by rw[UR rb x _ (λe he=>hi (ms.getD i xP) (by rw[List.getD_eq_getElem?_getD,List.getElem?_eq_getElem hi'];exact List.getElem_mem hi') e he)];exact h.sl i hi',h.inj,h.Yo⟩
structure Ad where
 rb:List Nat
 mb:List Nat
 vs:List Value
 ve:List Value
 vM:Value
 vC:Value
 vL:Value
structure eW(F:Nat->Prop)(w:tW)(b:Nat)(a:Ad)(s:bP):Prop where
 run:aB w b a.rb a.mb a.vM a.vC a.vL s.r
 qU:nJ w a.rb a.vs s.gs
 log:Sl w 22 1 a.vL s.r.log.length (Qy s.r.log)
 maps:tM w a.rb a.mb a.vM a.ve s.ms
 fb:F b
 fc:∀k,a.vC.ownBlock=some k->F k
 fl:∀k,a.vL.ownBlock=some k->F k
 fr:∀x∈a.rb,F x
 fv:∀v∈a.vs,∀k,v.ownBlock=some k->F k
 fm:∀x∈a.mb,F x
 fe:∀v∈a.ve,∀k,v.ownBlock=some k->F k
section
variable {F : Nat -> Prop} {w w' : World} {b : Nat} {a : Ad} {s : bP}
theorem eW.quiet(h:eW F w b a s)(m:aa ae w w'):eW F w' b a s :=
 ⟨h.run.quiet m,h.qU.quiet m,h.log.ag m (λ_ _=>id),h.maps.quiet m,h.fb,h.fc,h.fl,h.fr,h.fv,h.fm,h.fe⟩
theorem eW.US(h:eW F w b a s)(k:Nat)(hk:k=b\/Own a.vC k):∃t∈[125,190],Ty w k t:=by
 rcases hk with rfl|hk
 ·exact⟨_,by simp,h.run.blk.ty⟩
 ·exact⟨_,by simp,h.run.calls.ty hk⟩
theorem eW.UT(h:eW F w b a s)(m:aa (λk=>k=b\/Own a.vC k) w w')(r:aC)(hr:aB w' b a.rb a.mb a.vM a.vC a.vL r)(hl:r.log=s.r.log):eW F w' b a {s with r:=r}/\aa F w w':=by
 have mT:iL [125,190] w w':=iL.of m h.US;refine⟨⟨hr,h.qU.eG mT (by decide) (by decide),?_,h.maps.eG mT (by decide) (by decide) (by decide),h.fb,h.fc,h.fl,h.fr,h.fv,h.fm,h.fe⟩,m.mono (λk _ hk=>?_)⟩
 ·show Sl w' _ _ _ r.log.length (Qy r.log)
  rw[hl];exact h.log.eG mT (by decide)
 ·rcases hk with rfl|hk
  ·exact h.fb
  ·exact h.fc k hk
theorem eW.quiet'(h:eW F w b a s)(m:aa ae w w'):eW F w' b a s/\aa F w w':=⟨h.quiet m,m.mono (λ_ _ h=>h.elim)⟩
end
def dG(F:Nat->Prop)(w:tW)(b:Nat)(a:Ad)(d:Nat×bP)(e:Ending)(w':tW):Prop :=
 e=(if d.1=0 then .returned (.tuple #[])else aX d.1)/\aa F w w'/\∃a',eW F w' b a' d.2/\a'.mb=a.mb/\a'.vM=a.vM
theorem dG.ok{F:Nat->Prop}{w w':tW}{b:Nat}{a:Ad}{s:bP}(h:eW F w' b a s/\aa F w w'):dG F w b a (0,s) (.returned (.tuple #[])) w':=⟨rfl,h.2,a,h.1,rfl,rfl⟩
theorem dG.trap{F:Nat->Prop}{w w':tW}{b:Nat}{a:Ad}{s:bP}{t:Nat}(ht:t≠0)(h:eW F w b a s)(m:aa ae w w'):dG F w b a (t,s) (aX t) w':=⟨(iN9 ht).symm,(h.quiet' m).2,a,(h.quiet' m).1,rfl,rfl⟩
