import Derived.Test.YtmajaohgiilelaaGreatDoorC16
import Derived.Test.YtmajaohgiilelaaGreatDoorC06
namespace Go.Proofs.YtmajaohgiilelaaGreatDoor
open Go.RowKit Tryz
open _root_.Array renaming eq_empty_of_size_eq_zero->ao
open List renaming drop_eq_getElem_cons->an,flatMap_cons->ar
open Nat renaming eq_zero_or_pos->ba
set_option linter.all false
set_option maxRecDepth 100000
set_option maxHeartbeats 1000000
def lY:tBA:=T [104,101,108,112]
def zQ(i:bI):Int:=if i.name≠E0 then 1 else if i.s<0 then 0 else if i.word=WIDE then 0 else i.s
def lM(i:bI)(n:Int):Int:=if i.word=lY then 1+ahH i.label bO else if i.name≠E0 then n else i.n
def uy(i:bI)(jump n:Int):tBA :=
 kS [Aq i%256,i.d+16*zQ i]++kS (dY jump)++kS (bS (lM i n))++(if i.word=WIDE then T [0,0,0,0]++kS (bS (lM i n/4294967296))else E0)
theorem ve(w:tW)(g:Nat)(l:List Int)(h:∀x∈l,0<=x/\x<=255)(hb:aq w g (l.map (Value.int .u8)).toArray 5):Sem.run Tryz.prog (convert 62 9 (.slice (some ⟨g,0,none⟩) l.length l.length)) w=.ok (.string (kS l)) w:=by
 have key:=run_convert_bytes_back (P:=Tryz.prog) w 62 9 5 ⟨g,0,none⟩ l.length (l.map (λx=>UInt8.ofNat x.toNat)) underlying62 underlying5 underlying9 ?_
 ·rw[List.length_map]at key;exact key
 ·intro j hj;have hj':j<l.length:=by simpa using hj
  have hadd:(⟨g,0,none⟩:Addr).add j=⟨g,j,none⟩:=by unfold Addr.add;split<;>simp_all
  rw[hadd,hb.cell j];have hb:=h l[j] (List.getElem_mem hj');have e:((UInt8.ofNat (l[j]).toNat).toNat:Int)=l[j]:=by rw[UInt8.toNat_ofNat'];omega
  simp[hj'];omega
theorem NJ(s:tBA):-1<=ahH s bO/\ahH s bO<4:=wh s bO
theorem SF(i:bI)(h:i.Fit)(jump n:Int)(w:tW):Calls Tryz.prog 22 #[.agg i.cells,.int .i64 jump,.int .u64 n] w λe w'=>e=.returned (.string (uy i jump n))/\aa af w w':=by
 have HF:ae i.Fit:=h;have HI:ae (∃j:bI,j=i):=⟨i,rfl⟩
 have Fb:∀w',Calls Tryz.prog 43 #[.agg i.cells] w' λe w2=>e=.returned (.int .i64 (Aq i))/\aa af w' w2:=λw'=>abM i h w';obtain⟨word,is32,d,s,jmp,nn,label,name⟩:=i;have hb0:=aq.new w (bI.cells ⟨word,is32,d,s,jmp,nn,label,name⟩) 43;have HE:ae (uy ⟨word,is32,d,s,jmp,nn,label,name⟩ jump n=uy ⟨word,is32,d,s,jmp,nn,label,name⟩ jump n):=rfl;obtain⟨d0,d1,s1,s0,j0,j1,n0,n1,hw,hl,hn,aeH,wW⟩:=h;clear aeH wW;unfold bI.cells at *;simp only at *;have adi:ae _:=Fb;clear Fb;go_enter func22,ntmps22;go_upto_block 0 with fail;have HB0:ae _:=hb0;generalize hW:w.alloc (Obj.cells #[Value.string word,Value.bool is32,Value.int IntKind.i64 d,Value.int IntKind.i64 s,Value.int IntKind.i64 jmp,Value.int IntKind.u64 nn,Value.string label,Value.string name] 43)=W;have hb3:aq W w.heap.size #[Value.string word,Value.bool is32,Value.int IntKind.i64 d,Value.int IntKind.i64 s,Value.int IntKind.i64 jmp,Value.int IntKind.u64 nn,Value.string label,Value.string name] 43:=hW ▸ hb0;have m3:aa af w W:=hW ▸ ((aa.refl _ _).alloc _);clear HB0 hb0 hW;obtain⟨i0,i1,i2,i3,i4,i5,i6,i7⟩:=hb3.eY;go_cut [7] (λs7 wx=>s7=.int .i64 (if s<0 then 0 else if word=WIDE then 0 else s)/\wx=W)
 case first =>
  by_cases hs:s<0
  ·have HD:ae ((if s<0 then(0:Int)else if word=WIDE then 0 else s)=0):=by rw[ae,iP9 hs]
   go_wp2_with fail;go_meet;exact⟨by rw[HD.o],rfl⟩
  ·by_cases hw1:word=WIDE
   ·have t1:=dX hw1;have HD:ae ((if s<0 then(0:Int)else if word=WIDE then 0 else s)=0):=by rw[ae,iN9 hs,iP9 hw1]
    clear hw1;go_wp2_with fail;go_meet;exact⟨by rw[HD.o],rfl⟩
   ·have t1:=dK hw1;have HD:ae ((if s<0 then(0:Int)else if word=WIDE then 0 else s)=s):=by rw[ae,iN9 hs,iN9 hw1]
    clear hw1;go_wp2_with fail;go_meet;exact⟨by rw[HD.o],rfl⟩
 case rest =>
 obtain⟨rfl,rfl⟩:=hcut
 have hs1:(0:Int)<=(if s<0 then 0 else if word=WIDE then 0 else s)/\(if s<0 then(0:Int)else if word=WIDE then 0 else s)<=15:=by
  split
  ·omega
  ·split<;>omega
 have BC:ae ((if s<0 then(0:Int)else if word=WIDE then 0 else s)=(if s<0 then(0:Int)else if word=WIDE then 0 else s)):=rfl;generalize hz1:(if s<0 then(0:Int)else if word=WIDE then 0 else s)=z1 at *;have HZ1:=ak hz1;clear hz1;go_upto_if 23 with fail
 have HQ:ae ((!name.toList.isEmpty)=decide (name≠E0)):=by
  rw[ae];by_cases hz:name=E0
  ·rw[iH (s:=name) (by rw[hz];rfl)];simp[hz]
  ·rw[je (s:=name) (by
    rcases ba name.size with h0|h0
    ·exact absurd (by apply ByteArray.ext;apply ao;simpa using h0) hz
    ·exact h0)];simp[hz]
 generalize(!name.toList.isEmpty)=q at *;go_cut [7,8] (λs7 s8 wx=>s7=.int .i64 (if name≠E0 then 1 else z1)/\s8=.int .u64 (if name≠E0 then n else nn)/\wx=wc)
 case first =>
  cases q with
  |false =>
   have hz:¬name≠E0:=by simpa using HQ.o.symm
   have HD:ae ((if name≠E0 then(1:Int)else z1)=z1/\(if name≠E0 then n else nn)=nn):=by rw[ae,iN9 hz,iN9 hz];exact⟨rfl,rfl⟩
   clear hz;go_wp2_with fail;go_meet;exact⟨by rw[HD.o.1],by rw[HD.o.2],rfl⟩
  |true =>
   have hz:name≠E0:=by simpa using HQ.o.symm
   have HD:ae ((if name≠E0 then(1:Int)else z1)=1/\(if name≠E0 then n else nn)=n):=by rw[ae,iP9 hz,iP9 hz];exact⟨rfl,rfl⟩
   clear hz;go_wp2_with fail;go_meet;exact⟨by rw[HD.o.1],by rw[HD.o.2],rfl⟩
 case rest =>
 obtain⟨rfl,rfl,rfl⟩:=hcut;have hs2:(0:Int)<=(if name≠E0 then 1 else z1)/\(if name≠E0 then(1:Int)else z1)<=15:=by split<;>omega
 generalize hz2:(if name≠E0 then(1:Int)else z1)=z2 at *;generalize hz3:(if name≠E0 then n else nn)=z3 at *;have HZ2:=ak hz2;have HZ3:=ak hz3;clear hz2 hz3;go_upto_if 27 with fail
 have qI:ae ((word.toList==[104,101,108,112])=decide (word=lY)):=by
  rw[ae];by_cases hz:word=lY
  ·rw[dX hz];simp[hz]
  ·rw[dK hz];simp[hz]
 generalize(word.toList==[104,101,108,112])=q2 at *;go_cut [8] (λs8 wx=>s8=.int .u64 (if word=lY then 1+ahH label bO else z3)/\aa af wc wx)
 case first =>
  cases q2 with
  |true =>
   have hz:word=lY:=by simpa using qI.o.symm
   have HD:ae ((if word=lY then 1+ahH label bO else z3)=1+ahH label bO):=by rw[ae,iP9 hz]
   clear hz;have hpb:=NJ label;go_wp2_with fail;refine mD [.inl (.pointer (some ⟨w.heap.size,6,none⟩)),.inl (.string label),.inr (λu w'=>∃g,u=.slice (some ⟨g,0,none⟩) 4 4/\aq w' g (strs bO) 9),.inl (.int .i64 (ahH label bO)),.inl (.int .i64 (1+ahH label bO)),.inl (.int .u64 (1+ahH label bO)),.inl (.int .u64 (1+ahH label bO))] (λw'=>aa af wc w') (aa af) (by kernel_rfl) (by kernel_rfl) (by kernel_rfl) ((aa.refl _ _).drew) ?_ (λ_ _ h1 h2=>h1.trans h2) (λ_=>aa.refl _ _) ?_
   ·exact oz (show tM _ _ from⟨λu w1 w2 m ⟨g,h1,h2⟩=>⟨g,h1,h2.ah m id⟩,trivial⟩)
   refine aM rfl (λw' hC _ K hK=>?_) ?_
   ·go_big_op;exact hK _ _ _ rfl (aa.refl _ _) rfl
   simp only[Act.put,sA9,sB9,sC9];refine aM rfl (λw' hC _ K hK=>?_) ?_
   ·have c6:w'.cell? ⟨w.heap.size,6,none⟩=some (.string label):=(hb3.ah hC id).cell 6;go_big_op;exact hK _ _ _ rfl (aa.refl _ _) rfl
   simp only[Act.put,sA9,sB9,sC9];refine CT rfl (λw' hC _ K hK=>?_) (λx=>?_)
   ·go_big_op;refine(BA _).mono ?_;rintro e w2 ⟨rfl,h2,m2⟩;exact hK _ _ _ rfl m2 ⟨_,rfl,h2⟩
   simp only[Act.put,sA9,sB9,sC9];refine aM rfl (λw' hC hk K hK=>?_) ?_
   ·obtain⟨g,rfl,hg⟩:∃g,x=.slice (some ⟨g,0,none⟩) 4 4/\aq w' g (strs bO) 9:=qW hk 2 (by decide);go_big_op;refine(vX label g bO _ (by decide) hg).mono ?_;rintro e w2 ⟨rfl,rfl⟩;exact hK _ _ _ rfl (aa.refl _ _) rfl
   simp only[Act.put,sA9,sB9,sC9];refine aM rfl (λw' hC _ K hK=>?_) ?_
   ·go_big_op;exact hK _ _ _ rfl (aa.refl _ _) rfl
   simp only[Act.put,sA9,sB9,sC9];refine aM rfl (λw' hC _ K hK=>?_) ?_
   ·go_big_op;exact hK _ _ _ rfl (aa.refl _ _) rfl
   simp only[Act.put,sA9,sB9,sC9];refine aM rfl (λw' hC _ K hK=>?_) ?_
   ·go_big_op;exact hK _ _ _ rfl (aa.refl _ _) rfl
   simp only[Act.put,sA9,sB9,sC9];refine CU (λw' hC _=>?_);simp only[Exit.then];go_wp2_with fail;go_meet;exact⟨by rw[HD.o],hC⟩
  |false =>
   have hz:¬word=lY:=by simpa using qI.o.symm
   have HD:ae ((if word=lY then 1+ahH label bO else z3)=z3):=by rw[ae,iN9 hz]
   clear hz;go_wp2_with fail;go_meet;exact⟨by rw[HD.o],aa.refl _ _⟩
 case rest =>
 obtain⟨rfl,m4⟩:=hcut;generalize hz4:(if word=lY then 1+ahH label bO else z3)=z4 at *;have Sc:=ak hz4;clear hz4;go_upto_region 12 with fail;obtain⟨o,ho⟩:∃o,o=Aq ⟨word,is32,d,s,jmp,nn,label,name⟩:=⟨_,rfl⟩
 have HO:=ak ho;have aeI:ae (∀w',Calls Tryz.prog 43 #[.agg #[.string word,.bool is32,.int .i64 d,.int .i64 s,.int .i64 jmp,.int .u64 nn,.string label,.string name]] w' λe w2=>e=.returned (.int .i64 o)/\aa af w' w2):=by rw[ae,ho];exact adi.o
 clear ho adi;obtain⟨s0',hs0⟩:∃s0',s0'=kS [o%256,d+16*z2]:=⟨_,rfl⟩
 have Yo:=ak hs0;have hz0:s0'.size=2:=by rw[hs0,qL];rfl
 clear hs0;have hz1':(kS (dY jump)).size=2:=qL _;have hz2':(kS (bS z4)).size=4:=qL _;have yL:ae (∀w',aa af wc w'->aq w' w.heap.size #[Value.string word,Value.bool is32,Value.int IntKind.i64 d,Value.int IntKind.i64 s,Value.int IntKind.i64 jmp,Value.int IntKind.u64 nn,Value.string label,Value.string name] 43):=λw' m=>hb3.ah (m4.trans m) id
 refine mD [.inl (.agg #[.string word,.bool is32,.int .i64 d,.int .i64 s,.int .i64 jmp,.int .u64 nn,.string label,.string name]),.inl (.int .i64 o),.inl (.int .u8 (o%256)),.inl (.pointer (some ⟨w.heap.size,2,none⟩)),.inl (.int .i64 d),.inl (.int .i64 z2),.inl (.int .i64 (16*z2)),.inl (.int .i64 (d+16*z2)),.inl (.int .u8 (d+16*z2)),
  .inr (λu w'=>∃g,u=.slice (some ⟨g,0,none⟩) 2 2/\aq w' g #[.int .u8 (o%256),.int .u8 (d+16*z2)] 5),.inl (.string s0'),.inl (.int .i64 jump),.inl (.string (kS (dY jump))),.inl (.string (s0'++kS (dY jump))),.inl (.int .u64 z4),.inl (.string (kS (bS z4))),.inl (.string (s0'++kS (dY jump)++kS (bS z4))),.inl (.string (s0'++kS (dY jump)++kS (bS z4)))] (λw'=>aa af wc w') (aa af) (by kernel_rfl) (by kernel_rfl) (by kernel_rfl) ((aa.refl _ _).drew) ?_ (λ_ _ h1 h2=>h1.trans h2) (λ_=>aa.refl _ _) ?_
 ·exact oz (show tM _ _ from⟨λu w1 w2 m ⟨g,h1,h2⟩=>⟨g,h1,h2.ah m id⟩,trivial⟩)
 refine aM rfl (λw' hC _ K hK=>?_) ?_
 ·obtain⟨e0,e1,e2,e3,e4,e5,e6,e7⟩:=(yL.o w' hC).eY;go_big_op;exact hK _ _ _ rfl (aa.refl _ _) rfl
 simp only[Act.put,sA9,sB9,sC9];refine aM rfl (λw' hC _ K hK=>?_) ?_
 ·go_big_op;refine(aeI.o _).mono ?_;rintro e w2 ⟨rfl,m2⟩;exact hK _ _ _ rfl m2 rfl
 simp only[Act.put,sA9,sB9,sC9];refine aM rfl (λw' hC _ K hK=>?_) ?_
 ·go_big_op;exact hK _ _ _ rfl (aa.refl _ _) rfl
 simp only[Act.put,sA9,sB9,sC9];refine aM rfl (λw' hC _ K hK=>?_) ?_
 ·go_big_op;exact hK _ _ _ rfl (aa.refl _ _) rfl
 simp only[Act.put,sA9,sB9,sC9];refine aM rfl (λw' hC _ K hK=>?_) ?_
 ·obtain⟨e0,e1,e2,e3,e4,e5,e6,e7⟩:=(yL.o w' hC).eY;go_big_op;exact hK _ _ _ rfl (aa.refl _ _) rfl
 simp only[Act.put,sA9,sB9,sC9];refine aM rfl (λw' hC _ K hK=>?_) ?_
 ·go_big_op;exact hK _ _ _ rfl (aa.refl _ _) rfl
 simp only[Act.put,sA9,sB9,sC9];refine aM rfl (λw' hC _ K hK=>?_) ?_
 ·go_big_op;exact hK _ _ _ rfl (aa.refl _ _) rfl
 simp only[Act.put,sA9,sB9,sC9];refine aM rfl (λw' hC _ K hK=>?_) ?_
 ·go_big_op;exact hK _ _ _ rfl (aa.refl _ _) rfl
 simp only[Act.put,sA9,sB9,sC9];refine aM rfl (λw' hC _ K hK=>?_) ?_
 ·go_big_op;exact hK _ _ _ rfl (aa.refl _ _) rfl
 simp only[Act.put,sA9,sB9,sC9];refine CT rfl (λw' hC _ K hK=>?_) (λx=>?_)
 ·go_big_op;exact hK _ _ _ rfl ((aa.refl _ _).alloc _) ⟨_,rfl,aq.new _ _ _⟩
 simp only[Act.put,sA9,sB9,sC9];refine aM rfl (λw' hC hk K hK=>?_) ?_
 ·obtain⟨g,rfl,hg⟩:∃g,x=.slice (some ⟨g,0,none⟩) 2 2/\aq w' g #[.int .u8 (o%256),.int .u8 (d+16*z2)] 5:=qW hk 9 (by decide);have hcv:=ve w' g [o%256,d+16*z2] (λx hx=>by simp at hx;rcases hx with rfl|rfl<;>omega) hg;simp only[List.length_cons,List.length_nil]at hcv;rw[<-Yo.o]at hcv;go_big_op;exact hK _ _ _ rfl (aa.refl _ _) rfl
 simp only[Act.put,sA9,sB9,sC9];refine aM rfl (λw' hC _ K hK=>?_) ?_
 ·go_big_op;exact hK _ _ _ rfl (aa.refl _ _) rfl
 simp only[Act.put,sA9,sB9,sC9];refine aM rfl (λw' hC _ K hK=>?_) ?_
 ·go_big_op;refine(KI _ _).mono ?_;rintro e w2 ⟨rfl,m2⟩;exact hK _ _ _ rfl m2 rfl
 simp only[Act.put,sA9,sB9,sC9];refine aM rfl (λw' hC _ K hK=>?_) ?_
 ·go_big_op;exact hK _ _ _ rfl (aa.refl _ _) rfl
 simp only[Act.put,sA9,sB9,sC9];refine aM rfl (λw' hC _ K hK=>?_) ?_
 ·go_big_op;exact hK _ _ _ rfl (aa.refl _ _) rfl
 simp only[Act.put,sA9,sB9,sC9];refine aM rfl (λw' hC _ K hK=>?_) ?_
 ·go_big_op;refine(KJ _ _).mono ?_;rintro e w2 ⟨rfl,m2⟩;exact hK _ _ _ rfl m2 rfl
 simp only[Act.put,sA9,sB9,sC9];refine aM rfl (λw' hC _ K hK=>?_) ?_
 ·go_big_op;exact hK _ _ _ rfl (aa.refl _ _) rfl
 simp only[Act.put,sA9,sB9,sC9];refine aM rfl (λw' hC _ K hK=>?_) ?_
 ·go_big_op;exact hK _ _ _ rfl (aa.refl _ _) rfl
 simp only[Act.put,sA9,sB9,sC9];refine CU (λw' hC _=>?_);simp only[Exit.then];have HCO:ae (uy ⟨word,is32,d,s,jmp,nn,label,name⟩ jump n=s0'++kS (dY jump)++kS (bS z4)++(if word=WIDE then T [0,0,0,0]++kS (bS (z4/4294967296))else E0)):=by rw[ae,uy,lM,zQ,Yo.o,HO.o,<-Sc.o,<-HZ2.o,<-HZ3.o,<-HZ1.o]
 have HQ3:ae ((word.toList==[119,105,100,101])=decide (word=WIDE)):=by
  rw[ae];by_cases hz:word=WIDE
  ·rw[dX hz];simp[hz]
  ·rw[dK hz];simp[hz]
 obtain⟨e0,e1,e2,e3,e4,e5,e6,e7⟩:=(yL.o w' hC).eY;have M5:ae (aa af w w'):=(m3.trans m4).trans hC;obtain⟨t0,ht0⟩:∃t0,t0=s0'++kS (dY jump)++kS (bS z4):=⟨_,rfl⟩
 have HT0:=ak ht0;have ahf:t0.size=8:=by rw[ht0];simp[ByteArray.size_append,hz0,hz1',hz2']
 rw[<-ht0];clear ht0 hC hb3;go_upto_if 53 with fail;generalize(word.toList==[119,105,100,101])=q3 at *;cases q3 with
 |true =>
  have hz:word=WIDE:=by simpa using HQ3.o.symm
  have Ws:ae (uy ⟨word,is32,d,s,jmp,nn,label,name⟩ jump n=t0++T [0,0,0,0]++kS (bS (z4/4294967296))):=by rw[ae,HCO.o,iP9 hz,HT0.o,ByteArray.append_assoc (b:=T _)]
  clear hz;have hz5:(kS (bS (z4/4294967296))).size=4:=qL _;go_wp2_with fail;refine(KJ _ _).mono ?_;rintro e w2 ⟨rfl,m2⟩;go_wp2_with fail;go_ret;refine⟨?_,M5.o.trans m2⟩;rw[Ws.o];rfl
 |false =>
  have hz:¬word=WIDE:=by simpa using HQ3.o.symm
  have Ws:ae (uy ⟨word,is32,d,s,jmp,nn,label,name⟩ jump n=t0):=by rw[ae,HCO.o,iN9 hz,HT0.o];apply ByteArray.ext;simp
  clear hz;go_wp2_with fail;go_ret;exact⟨by rw[Ws.o];rfl,M5.o⟩
def b8(l:List Int):tLB:=l.map (λx=>UInt8.ofNat x.toNat)
theorem nT(l:List Int):kS l=T (b8 l):=rfl
theorem gQ(l:List Int):(b8 l).length=l.length:=by simp[b8]
def uz(i:bI)(jump n:Int):tLB :=
 b8 [Aq i%256,i.d+16*zQ i]++b8 (dY jump)++b8 (bS (lM i n))++(if i.word=WIDE then [0,0,0,0]++b8 (bS (lM i n/4294967296))else [])
theorem Wt(i:bI)(jump n:Int):uy i jump n=T (uz i jump n):=by unfold uy uz;rw[nT,nT,nT,nT];split<;>simp only[<-jR]<;>rfl
theorem GP(i:bI)(jump n:Int):(uz i jump n).length<=16:=by unfold uz;split<;>simp[b8,dY,bS]
def dH(s:tBA):tLB:=b8 [(s.size:Int)%256]++BL s
theorem SG(s:tBA):Jb s=T (dH s):=by unfold Jb dH;rw[nT,<-jR,UG]
theorem dS(s:tBA):(dH s).length=s.size+1:=by simp[dH,b8,UH]
def Lc(m:bz):tLB:=dH m.name++b8 [m.key,m.value,m.entries]
def qX(ms:List bz):tLB:=ms.flatMap Lc
def BX(f:yY):tLB:=dH f.name++b8 (dY f.slots)
def ni(fs:List yY):tLB:=fs.flatMap BX
def Wu(nU:Bool)(mn fn:List tBA)(x:bI):Int :=
 if nU=true/\x.word=CALL then ahH x.name fn else if nU=true/\x.word=WIDE/\x.name≠E0 then ahH x.name mn else 0
def Js(nU:Bool)(mn fn:List tBA)(lab:acX)(x:bI×Int):tLB:=uz x.1 (Dw lab x.1 x.2) (Wu nU mn fn x.1%18446744073709551616)
def vg(i:Nat)(x:bI×Int):tLB:=if x.1.name≠E0 then b8 [(i:Int)]++b8 (dY x.2)++dH x.1.name else []
def vk(x:bI×Int):Nat:=if x.1.name≠E0 then 1 else 0
def Yp(nU:Bool)(mn fn:List tBA)(o:lS):tLB:=(o.ls.zip o.ats).flatMap (Js nU mn fn o.lab)
def Cz(nU:Bool)(mn fn:List tBA)(os:List lS):tLB:=os.flatMap (Yp nU mn fn)
def aib:Nat->List lS->tLB
 |_,[]=>[]
 |i,o::l=>(o.ls.zip o.ats).flatMap (vg i)++aib (i+1) l
def aic:List lS->Nat
 |[]=>0
 |o::l=>((o.ls.zip o.ats).map vk).sum+aic l
def vw(nU:Bool)(ms:List bz)(fs:List yY)(os:List lS):tLB :=
 [83,80,79,76]++(if nU then [2]else [1])++b8 [(ms.length:Int)]++qX ms++b8 [(fs.length:Int)]++ni fs++Cz nU (ms.map (·.name)) (fs.map (·.name)) os ++
  (if nU then []else b8 (dY (aic os))++aib 0 os)
theorem NK(ms:List bz)(k:Nat)(h:k<ms.length):qX (ms.drop k)=Lc ms[k]++qX (ms.drop (k+1)):=by rw[an h,qX,ar];rfl
theorem Ld(fs:List yY)(k:Nat)(h:k<fs.length):ni (fs.drop k)=BX fs[k]++ni (fs.drop (k+1)):=by rw[an h,ni,ar];rfl
theorem SH(nU:Bool)(mn fn:List tBA)(os:List lS)(k:Nat)(h:k<os.length):Cz nU mn fn (os.drop k)=Yp nU mn fn os[k]++Cz nU mn fn (os.drop (k+1)):=by rw[an h,Cz,ar];rfl
theorem NL(os:List lS)(i k:Nat)(h:k<os.length):aib i (os.drop k)=(os[k].ls.zip os[k].ats).flatMap (vg i)++aib (i+1) (os.drop (k+1)):=by rw[an h,aib]
theorem NM(os:List lS)(k:Nat)(h:k<os.length):aic (os.drop k)=((os[k].ls.zip os[k].ats).map vk).sum+aic (os.drop (k+1)):=by rw[an h,aic]
structure NN(w:tW)(h:Mh)(o:lS):Prop where
 sl:Sl w 43 8 h.vL o.ls.length (mK o.ls)
 sa:Sl w 3 1 h.vA o.ats.length (jf o.ats)
 sb:Sl w 9 1 h.vB o.lab.length (Db (o.lab.map (·.1)))
 sp:Sl w 3 1 h.vP o.lab.length (jf (o.lab.map (·.2)))
theorem NN.quiet{w w':tW}{h:Mh}{o:lS}(f:NN w h o)(m:aa af w w'):NN w' h o :=
 ⟨f.sl.ah m (λ_ _=>id),f.sa.ah m (λ_ _=>id),f.sb.ah m (λ_ _=>id),f.sp.ah m (λ_ _=>id)⟩
theorem yt(s:tBA)(hs:s.size<=1000)(w:tW):Calls Tryz.prog 19 #[.string s] w λe w'=>e=.returned (.string (T (dH s)))/\aa af w w':=by rw[<-SG];exact RQ s hs w
theorem DY(n:Int)(w:tW):Calls Tryz.prog 20 #[.int .i64 n] w λe w'=>e=.returned (.string (T (b8 (dY n))))/\aa af w w':=KI n w
theorem SI(i:bI)(h:i.Fit)(jump n:Int)(w:tW):Calls Tryz.prog 22 #[.agg i.cells,.int .i64 jump,.int .u64 n] w λe w'=>e=.returned (.string (T (uz i jump n)))/\aa af w w':=by rw[<-Wt];exact SF i h jump n w
theorem Jt(s:tBA):(!s.toList.isEmpty)=decide (s≠E0):=by
 by_cases hz:s=E0
 ·rw[iH (s:=s) (by rw[hz];rfl)];simp[hz]
 ·rw[je (s:=s) (by
   rcases ba s.size with h0|h0
   ·exact absurd (by apply ByteArray.ext;apply ao;simpa using h0) hz
   ·exact h0)];simp[hz]
structure ab1(f:yY)(o:lS):Prop where
 fit:∀i∈o.ls,i.Fit
 al:o.ats.length=o.ls.length
 ab:∀a∈o.ats,0<=a/\a<f.slots
 jl:∀i∈o.ls,aD i.word=106->0<=ahJ i.label o.lab/\ahJ i.label o.lab<f.slots
 sl:f.slots<=200
 ll:o.ls.length<=200
 lb:o.lab.length<=10000
 nm:f.name.size<=300
theorem SQ(w:tW)(fb off slots:Nat)(vL vA vB vP:Value)(name:tBA)(ls:List bI)(ats:List Int)(lab:List (tBA×Int))(h:YZ w fb off slots vL vA vB vP name ls ats lab)(k:Nat)(hk:k<ls.length)(hka:k<ats.length)(hb:lab.length<=1000000) (hl:ls.length<=1000) (hw:ls[k].word.size<=100) (ha:0<=ats[k]/\ats[k]<=1000) (hj:aD ls[k].word=106->-1<=ahJ ls[k].label lab/\ahJ ls[k].label lab<=1000):Calls Tryz.prog 23 #[.pointer (some ⟨fb,off,none⟩),.int .i64 k] w λe w'=>e=.returned (.int .i64 (Dw lab ls[k] ats[k]))/\aa af w w':=by
 obtain⟨oL,cL,NX,vwL⟩:=h.sl.view;obtain⟨oA,cA,Ar,vwA⟩:=h.sa.view;subst NX Ar;obtain⟨gL,csL,rfl,_⟩:=vwL (by omega);obtain⟨gA,csA,rfl,_⟩:=vwA (by omega);obtain⟨e0,e1,e2,e3,e4,e5,e6,e7,_⟩:=h.sl.at8 rfl k hk;have c1:=h.c1;have HJ:=ak hj;clear hj;have HH:ae _:=h;have HIK:ae (ls[k]=ls[k]):=rfl;have hca:∀(g:Ext af w),True:=λ_=>trivial;have HCA:ae (∀wx,aa af w wx->wx.cell? ⟨gA,k,none⟩=some (.int .i64 ats[k])):=by intro wx m;have hq:=h.quiet m;obtain⟨g,hg,hc⟩:=hq.sa.at rfl k hka;cases hg;rw[hc k hka,jf,List.getElem?_map,List.getElem?_eq_getElem hka];rfl
 clear h hca HIK;generalize ls[k]=x at *;generalize ats[k]=a at *;obtain⟨xw,x32,xd,xs,xj,xn,xl,xm⟩:=x;simp only at *;have HE:ae (Dw lab ⟨xw,x32,xd,xs,xj,xn,xl,xm⟩ a=if aD xw=106 then ahJ xl lab-a-dL xw else xj):=rfl;go_enter func23,ntmps23;go_wp2_with fail;refine(eG _ _ (by unfold maxLen;omega)).mono ?_;rintro e w1 ⟨rfl,m1⟩;have hb1:aq w1 w.heap.size #[.string xw,.bool x32,.int .i64 xd,.int .i64 xs,.int .i64 xj,.int .u64 xn,.string xl,.string xm] 43:=(aq.new w _ _).ah m1 (λe=>e);have M1:aa af w w1:=((aa.refl _ _).alloc _).trans m1;clear e0 e1 e2 e3 e4 e5 e6 e7 c1 m1;obtain⟨e0,e1,e2,e3,e4,e5,e6,e7⟩:=hb1.eY;by_cases hs:aD xw=106
 ·have hj:=HJ.o hs;rw[hs];obtain⟨g0,g1,g2,g3,g4,g5,g6,g7⟩:=Ext.eY (S:=af) hb1 (λe=>e);have R:∀g:Ext af w1,YZ g.w fb off slots _ _ vB vP name ls ats lab:=λg=>HH.o.quiet (M1.trans g.m);have f1:=λg=>(R g).c1;have f2:=λg=>(R g).c2;have ga:∀g:Ext af w1,g.w.cell? ⟨gA,k,none⟩=some (.int .i64 a):=λg=>HCA.o _ (M1.trans g.m);have hlb:∀g:Ext af w1,Calls Tryz.prog 14 #[.pointer (some ⟨fb,off,none⟩),.string xl] g.w λe w'=>e=.returned (.int .i64 (ahJ xl lab))/\aa af g.w w':=λg=>(xM fb off xl lab vB vP g.w (R g).c4 (R g).c5 (R g).sb (R g).sp hb).mono (λe w' ⟨h1,h2⟩=>⟨h1,h2 ▸ aa.refl _ _⟩);have hsi:=Az xw;have HE2:=ak HE.o;rw[iP9 hs]at HE2;have CS:ae _:=hlb;clear hlb R;go_wp2_with fail;have ne1:=Ext.ne af w1;refine bD af (by kernel_rfl) (by kernel_rfl) ?_
  repeat(go_big_quiet_step (first |(go_at_call 14;exact Calls.dN (CS.o _)) |(go_at_call 16;exact Calls.dN (Gq ⟨xw,x32,xd,xs,xj,xn,xl,xm⟩ _))))
  refine wpQuiet_nil ?_;rintro w2 ⟨⟨wx,m2⟩,hwx⟩;simp only at hwx;subst hwx;go_wp2_with fail;go_ret;exact⟨by rw[HE2.o];rfl,M1.trans m2⟩
 ·have HE2:=ak HE.o;rw[iN9 hs]at HE2;go_wp2_with fail;go_ret;exact⟨by rw[HE2.o];rfl,M1⟩
theorem aau(x:tLB):∀y:tLB,Op.bytesLess x y=decide (x<y):=by
 induction x with
 |nil=>intro y;cases y<;>simp[Op.bytesLess]
 |cons a x ih =>
  intro y;cases y with
  |nil=>simp[Op.bytesLess]
  |cons b y =>
   rw[Op.bytesLess,ih y];by_cases h:a=b
   ·subst h;simp
   ·simp[List.cons_lt_cons_iff,h]
theorem Jw(a b:tBA):jO a b=decide (a.toList<b.toList):=by unfold jO;exact aau _ _
theorem D6(a:tBA):jO a a=false:=by rw[Jw];simp[List.lt_irrefl]
theorem Bc{a b c:tBA}(h1:jO a b=true)(h2:jO b c=true):jO a c=true:=by rw[Jw]at *;simp only[decide_eq_true_eq]at *;exact List.lt_trans h1 h2
theorem Bd{a b:tBA}(h1:jO a b=true):jO b a=false:=by
 cases h:jO b a with
 |false=>rfl
 |true=>have:=Bc h1 h;rw[D6]at this;cases this
theorem GQ{a b:tBA}(h1:jO a b=false)(h2:jO b a=false):a=b:=by rw[Jw]at *;simp only[decide_eq_false_iff_not]at *;have h3:a.toList=b.toList:=List.le_antisymm (List.not_lt.1 h2) (List.not_lt.1 h1);apply ByteArray.ext;apply Array.toList_inj.1;rw[<-ByteArray.toList_eq,<-ByteArray.toList_eq];exact h3
theorem GR{a b c:tBA}(h1:jO b a=false)(h2:jO c b=false):jO c a=false:=by
 cases h:jO c a with
 |false=>rfl
 |true =>
  cases h3:jO b c with
  |true=>have:=Bc h3 h;rw[h1]at this;cases this
  |false =>have:=GQ h2 h3;subst this;rw[h1]at h;cases h
section
variable {α : Type} (nm : α -> ByteArray)
structure yx(l:List α)(i k:Nat):Prop where
 le:∀p q (hp:p<l.length) (hq:q<l.length),p<q->q<=i->p≠k->q≠k->jO (nm l[q]) (nm l[p])=false
 lt:∀q (hq:q<l.length) (hk:k<l.length),k<q->q<=i->jO (nm l[k]) (nm l[q])=true
def ib(l:List α)(i:Nat):Prop:=∀p q (hp:p<l.length) (hq:q<l.length),p<q->q<i->jO (nm l[q]) (nm l[p])=false
theorem yx.start{l:List α}{i:Nat}(h:ib nm l i):yx nm l i i :=
 ⟨λp q hp hq h1 h2 _ h4=>h p q hp hq h1 (by omega),λq _ _ h1 h2=>absurd h1 (by omega)⟩
theorem yx.abq{l:List α}{i:Nat}(h:yx nm l i 0):ib nm l (i+1):=by
 intro p q hp hq h1 h2;by_cases e:p=0
 ·subst e;exact Bd (h.lt q hq hp h1 (by omega))
 ·exact h.le p q hp hq h1 (by omega) e (by omega)
theorem yx.done{l:List α}{i k:Nat}(h:yx nm l i k)(hk:k<l.length)(hk0:0<k)(hki:k<=i)(ht:jO (nm l[k]) (nm (l[k-1]'(by omega)))=false):ib nm l (i+1):=by
 intro p q hp hq h1 h2;by_cases e:p=k
 ·subst e;exact Bd (h.lt q hq hp h1 (by omega))
 ·by_cases e2:q=k
  ·subst e2;by_cases e3:p=q-1
   ·subst e3;exact ht
   ·exact GR (h.le p (q-1) hp (by omega) (by omega) (by omega) e (by omega)) ht
  ·exact h.le p q hp hq h1 (by omega) e e2
def pF(l:List α)(k:Nat)(hk:k<l.length)(hk1:k-1<l.length):List α:=(l.set k l[k-1]).set (k-1) l[k]
theorem qZ(l:List α)(k:Nat)(hk:k<l.length)(hk1:k-1<l.length):(pF l k hk hk1).length=l.length:=by simp[pF]
theorem ra(l:List α)(k:Nat)(hk:k<l.length)(hk1:k-1<l.length)(j:Nat)(hj:j<l.length):(pF l k hk hk1)[j]'(by rw[qZ];exact hj)=if j=k-1 then l[k]else if j=k then l[k-1]else l[j]:=by
 simp only[pF,List.getElem_set];by_cases h1:k-1=j
 ·simp[h1]
 ·have h1':¬j=k-1:=λe=>h1 e.symm;rw[iN9 h1,iN9 h1'];by_cases h2:k=j
  ·simp[h2]
  ·have h2':¬j=k:=λe=>h2 e.symm;rw[iN9 h2,iN9 h2']
theorem yx.step{l:List α}{i k:Nat}(h:yx nm l i k)(hk:k<l.length)(hk1:k-1<l.length)(hk0:0<k)(_hki:k<=i)(ht:jO (nm l[k]) (nm l[k-1])=true):yx nm (pF l k hk hk1) i (k-1):=by
 constructor
 ·intro p q hp hq h1 h2 h3 h4;rw[qZ]at hp hq;rw[ra l k hk hk1 q hq,ra l k hk hk1 p hp,iN9 h4,iN9 h3];by_cases e:q=k
  ·rw[iP9 e,iN9 (by omega)];exact h.le p (k-1) hp hk1 (by omega) (by omega) (by omega) (by omega)
  ·rw[iN9 e];by_cases e2:p=k
   ·rw[iP9 e2];exact h.le (k-1) q hk1 hq (by omega) h2 (by omega) e
   ·rw[iN9 e2];exact h.le p q hp hq h1 h2 e2 e
 ·intro q hq hk' h1 h2;rw[qZ]at hq;rw[ra l k hk hk1 q hq,ra l k hk hk1 (k-1) hk1,iP9 rfl,iN9 (by omega)];by_cases e:q=k
  ·rw[iP9 e];exact ht
  ·rw[iN9 e];exact h.lt q hq hk (by omega) h2
theorem D7(l:List α)(k:Nat)(hk:k<l.length)(hk1:k-1<l.length)(hk0:0<k):(pF l k hk hk1).Perm l:=by
 obtain⟨a,b,hl,ha⟩:∃a b,l=a++l[k-1]::l[k]::b/\a.length=k-1:=by
  refine⟨l.take (k-1),l.drop (k+1),?_,by simp;omega⟩;have h1:l.drop (k-1)=l[k-1]::l.drop k:=by rw[an hk1];congr 2;omega
  have h2:l.drop k=l[k]::l.drop (k+1):=an hk;rw[<-h2,<-h1,List.take_append_drop]
 have key:pF l k hk hk1=a++l[k]::l[k-1]::b:=by
  apply List.ext_getElem?;intro j;by_cases hj:j<l.length
  ·rw[List.getElem?_eq_getElem (by rw[qZ];exact hj),ra l k hk hk1 j hj];have hj':l[j]?=(a++l[k-1]::l[k]::b)[j]?:=by rw[<-hl]
   rcases Nat.lt_or_ge j (k-1)with h1|h1
   ·rw[iN9 (by omega),iN9 (by omega),<-List.getElem?_eq_getElem hj,hj',List.getElem?_append_left (by omega),List.getElem?_append_left (by omega)]
   ·rw[List.getElem?_append_right (by omega)]at hj' ⊢;by_cases e:j=k-1
    ·subst e;simp[ha]
    ·by_cases e2:j=k
     ·subst e2;have:j-a.length=1:=by omega
      rw[iN9 e,iP9 rfl,this];simp
     ·rw[iN9 e,iN9 e2,<-List.getElem?_eq_getElem hj,hj'];obtain⟨m,hm⟩:∃m,j-a.length=m+2:=⟨j-a.length-2,by omega⟩
      rw[hm];simp
  ·rw[List.getElem?_eq_none (by rw[qZ];omega)]
   have:l.length=(a++l[k]::l[k-1]::b).length:=by
    have:=congrArg List.length hl
    simpa using this
   rw[List.getElem?_eq_none (by omega)]
 rw[key]
 conv=>rhs;rw[hl]
 exact List.Perm.append_left a (List.Perm.swap _ _ _)
end
structure SS(w0:tW)(pb:Nat)(oM:Option Addr)(cM:Nat)(vF:Value)(n:Nat)(l:List bz)(w:tW):Prop where
 prog:aq w pb #[.slice oM n cM,vF] 36
 maps:Sl w 64 4 (.slice oM n cM) l.length (l.flatMap bz.cells)
 len:l.length=n
 md:aa (λk=>Value.ownBlock (.slice oM n cM)=some k) w0 w
theorem SS.at{w0 w:tW}{pb cM n:Nat}{oM:Option Addr}{vF:Value}{l:List bz}(h:SS w0 pb oM cM vF n l w)(k:Nat)(hk:k<l.length):∃g,oM=some ⟨g,0,none⟩/\∀j (hj:j<l.length),w.cell? ⟨g,j*4,none⟩=some (.string l[j].name)/\w.cell? ⟨g,j*4+1,none⟩=some (.int .i64 l[j].key)/\w.cell? ⟨g,j*4+2,none⟩=some (.int .i64 l[j].value)/\w.cell? ⟨g,j*4+3,none⟩=some (.int .i64 l[j].entries):=by have hm:=h.maps;have hl:=h.len;subst hl;exact hm.at4 rfl rfl k hk
theorem Sl.frz{w:tW}{e:TypeId}{size g n cap:Nat}{xs:List Value}(h:Sl w e size (.slice (some ⟨g,0,none⟩) n cap) n xs)(hn:0<n):∀j,w.frozen? ⟨g,j,none⟩=false:=by obtain⟨o,c,hv,hb⟩:=h.view;injection hv with h1 h2 h3;obtain⟨g',cs,hg,hb,_⟩:=hb hn;rw[<-h1]at hg;cases hg;exact hb.frozen
theorem SS.frz{w0 w:tW}{pb cM n g:Nat}{vF:Value}{l:List bz}(h:SS w0 pb (some ⟨g,0,none⟩) cM vF n l w)(hn:0<n):∀j,w.frozen? ⟨g,j,none⟩=false:=by have hm:=h.maps;rw[h.len]at hm;exact hm.frz hn
theorem NN.ah{w w':tW}{h:Mh}{o:lS}{S:Nat->Prop}(f:NN w h o)(m:aa S w w')(hl:∀k,h.vL.ownBlock=some k->¬S k)(ha:∀k,h.vA.ownBlock=some k->¬S k)(hb:∀k,h.vB.ownBlock=some k->¬S k)(hp:∀k,h.vP.ownBlock=some k->¬S k):NN w' h o :=
 ⟨f.sl.ah m hl,f.sa.ah m ha,f.sb.ah m hb,f.sp.ah m hp⟩
theorem SS.put{w0 w:tW}{pb cM n g:Nat}{vF:Value}{l:List bz}(h:SS w0 pb (some ⟨g,0,none⟩) cM vF n l w)(hpg:pb≠g)(k:Nat)(hk:k<l.length)(m:bz):SS w0 pb (some ⟨g,0,none⟩) cM vF n (l.set k m) ((((w.setCell ⟨g,k*4,none⟩ (.string m.name)).setCell ⟨g,k*4+1,none⟩ (.int .i64 m.key)).setCell ⟨g,k*4+2,none⟩ (.int .i64 m.value)).setCell ⟨g,k*4+3,none⟩ (.int .i64 m.entries)):=by
 have hl:=h.len;have hm:=h.maps;rw[hl]at hm;have hf:∀x:bz,x.cells.length=4:=λ_=>rfl;have e1:=hm.setAt (k*4) (.string m.name) (by omega);have e2:=e1.setAt (k*4+1) (.int .i64 m.key) (by omega);have e3:=e2.setAt (k*4+2) (.int .i64 m.value) (by omega);have e4:=e3.setAt (k*4+3) (.int .i64 m.entries) (by omega)
 rw[show k*4=k*4+0 from rfl,dO bz.cells 4 hf l k 0 hk (by omega) _ {l[k]with name:=m.name} rfl,
  dO bz.cells 4 hf _ k 1 (by simpa using hk) (by omega) _ {l[k]with name:=m.name,key:=m.key} (by simp[bz.cells]),
  dO bz.cells 4 hf _ k 2 (by simpa using hk) (by omega) _ {l[k]with name:=m.name,key:=m.key,value:=m.value} (by simp[bz.cells]),
  dO bz.cells 4 hf _ k 3 (by simpa using hk) (by omega) _ m (by simp[bz.cells])]at e4
 simp only[List.set_set]at e4;refine⟨?_,by rw[List.length_set,hl];exact e4,by rw[List.length_set];exact hl,?_⟩
 ·exact(((h.prog.setOther (a:=⟨g,k*4,none⟩) (show g≠pb from λe=>hpg e.symm) _).setOther (a:=⟨g,k*4+1,none⟩) (show g≠pb from λe=>hpg e.symm) _).setOther (a:=⟨g,k*4+2,none⟩) (show g≠pb from λe=>hpg e.symm) _).setOther (a:=⟨g,k*4+3,none⟩) (show g≠pb from λe=>hpg e.symm) _
 ·exact(((h.md.set (a:=⟨g,k*4,none⟩) (.inl rfl) _).set (a:=⟨g,k*4+1,none⟩) (.inl rfl) _).set (a:=⟨g,k*4+2,none⟩) (.inl rfl) _).set (a:=⟨g,k*4+3,none⟩) (.inl rfl) _
theorem SS.quiet{w0 w w':tW}{pb cM n:Nat}{oM:Option Addr}{vF:Value}{l:List bz}(h:SS w0 pb oM cM vF n l w)(m:aa af w w'):SS w0 pb oM cM vF n l w' :=
 ⟨h.prog.ah m id,h.maps.ah m (λ_ _=>id),h.len,h.md.trans (m.mono (λ_ _ e=>e.elim))⟩
