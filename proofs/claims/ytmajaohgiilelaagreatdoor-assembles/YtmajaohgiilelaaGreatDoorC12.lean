import Derived.Test.YtmajaohgiilelaaGreatDoorC05
import Derived.Deep.DeepCutAuto
import Derived.Deep.CutBlock
import Derived.Deep.OwnRows
namespace Go.Proofs.YtmajaohgiilelaaGreatDoor
open Go.RowKit Tryz
set_option linter.all false
theorem fV{l:tLB}{k:Nat}(h:l.length<=k):∃s:tBA,ae (s=T l)/\s.size<=k:=⟨T l,rfl,by rw[bZ];exact h⟩
theorem Qf{a b:tBA}(h:a=b):Ending.returned (.string a)=.returned (.string b):=by rw[h]
structure bI.Fit(i:bI):Prop where
 d0:0<=i.d
 d1:i.d<=15
 s1:i.s<=15
 s0:-1<=i.s
 j0:-32768<=i.jump
 j1:i.jump<=32767
 n0:0<=i.n
 n1:i.n<18446744073709551616
 word:i.word.size<=100
 label:i.label.size<=100
 name:i.name.size<=300
 is32:i.is32=true->aD i.word=114
 sort:aD i.word=114\/aD i.word=106\/(aD i.word=108/\0<=i.s)\/aD i.word=115\/aD i.word=119\/aD i.word=104\/aD i.word=99\/aD i.word=101
def WIDE:tBA:=T [119,105,100,101]
def CALL:tBA:=T [99,97,108,108]
def acW:tBA:=T [101,120,105,116]
def dL(word:tBA):Nat:=if word=WIDE then 2 else 1
def jH(word:tBA):Bool:=decide (word=acW)||decide (word=JA)
theorem Gq(i:bI)(w:tW):Calls prog 16 #[.agg i.cells] w λe w'=>e=.returned (.int .i64 (dL i.word))/\aa af w w':=by
 obtain⟨word,is32,d,s,jump,n,label,name⟩:=i;simp only;by_cases h:word=WIDE
 ·have q:=dX h;have HE:ae (dL word=2):=by rw[ae,dL,iP9 h]
  clear h;unfold bI.cells;go_enter func16,ntmps16;go_wp2;go_ret;exact⟨by rw[HE.o];rfl,((aa.refl _ _).alloc _)⟩
 ·have q:=dK h;have HE:ae (dL word=1):=by rw[ae,dL,iN9 h]
  clear h;unfold bI.cells;go_enter func16,ntmps16;go_wp2;go_ret;exact⟨by rw[HE.o];rfl,((aa.refl _ _).alloc _)⟩
theorem Vc(i:bI)(w:tW):Calls prog 40 #[.agg i.cells] w λe w'=>e=.returned (.bool (jH i.word))/\aa af w w':=by
 obtain⟨word,is32,d,s,jump,n,label,name⟩:=i;simp only;by_cases h:word=acW
 ·have q:=dX h;have HE:ae (jH word=true):=by rw[ae,jH,decide_eq_true h];rfl
  clear h;unfold bI.cells;go_enter func40,ntmps40;go_wp2;go_ret;exact⟨by rw[HE.o];rfl,((aa.refl _ _).alloc _)⟩
 ·have q:=dK h;by_cases h2:word=JA
  ·have q2:=dX h2;have HE:ae (jH word=true):=by rw[ae,jH,decide_eq_true h2,Bool.or_true]
   clear h h2;unfold bI.cells;go_enter func40,ntmps40;go_wp2;go_ret;exact⟨by rw[HE.o];rfl,((aa.refl _ _).alloc _)⟩
  ·have q2:=dK h2;have HE:ae (jH word=false):=by rw[ae,jH,decide_eq_false h,decide_eq_false h2];rfl
   clear h h2;unfold bI.cells;go_enter func40,ntmps40;go_wp2;go_ret;exact⟨by rw[HE.o];rfl,((aa.refl _ _).alloc _)⟩
def bI.dG(i:bI):List Value:=i.cells.toList
theorem bI.MI(i:bI):i.dG.length=8:=rfl
def mK(l:List bI):List Value:=l.flatMap bI.dG
theorem Vd:(prog.info? 43).map (λi=>(i.zero,i.size,i.bytes))=some (some (.agg (bI.cells {})),8,88):=by kernel_rfl
theorem Kq:(prog.info? 3).map (λi=>(i.zero,i.size,i.bytes))=some (some (.int .i64 0),1,8):=by kernel_rfl
theorem aT(w:tW)(cs:tAV)(t:TypeId)(b:Nat)(hb:b=w.heap.size):∀j u,cs.toList[j]?=some u->(w.alloc (.cells cs t)).cell? ((⟨b,0,none⟩:Addr).add j)=some u:=by
 intro j u h;subst hb;have hadd:(⟨w.heap.size,0,none⟩:Addr).add j=⟨w.heap.size,j,none⟩:=by unfold Addr.add;split<;>simp_all
 rw[hadd,(aq.new w cs t).cell j];simpa using h
theorem Az(x:tBA):1<=dL x/\dL x<=2:=by unfold dL;split<;>omega
theorem Ve:(prog.info? 9).map (λi=>(i.zero,i.size,i.bytes))=some (some (.string ByteArray.empty),1,16):=by kernel_rfl
theorem Sl.at8{w:tW}{g n cap:Nat}{ls:List bI}(h:Sl w 43 8 (.slice (some ⟨g,0,none⟩) n cap) n (mK ls))(hn:n=ls.length)(k:Nat)(hk:k<ls.length):w.cell? ⟨g,k*8,none⟩=some (.string ls[k].word)/\w.cell? ⟨g,k*8+1,none⟩=some (.bool ls[k].is32)/\w.cell? ⟨g,k*8+2,none⟩=some (.int .i64 ls[k].d)/\w.cell? ⟨g,k*8+3,none⟩=some (.int .i64 ls[k].s) /\ w.cell? ⟨g,k*8+4,none⟩=some (.int .i64 ls[k].jump)/\w.cell? ⟨g,k*8+5,none⟩=some (.int .u64 ls[k].n)/\w.cell? ⟨g,k*8+6,none⟩=some (.string ls[k].label)/\w.cell? ⟨g,k*8+7,none⟩=some (.string ls[k].name)/\∀j,w.frozen? ⟨g,j,none⟩=false:=by
 obtain⟨o',cap',hv,h2⟩:=h.view;cases hv;obtain⟨g',cs,he,hb,ht,_⟩:=h2 (by omega);cases he;subst hn;have key:∀j,j<8->w.cell? ⟨g,k*8+j,none⟩=(bI.dG ls[k])[j]?:=by intro j hj;rw[bA hb ht _ (by omega)];exact flat_get bI.dG 8 bI.MI ls k j hk hj
 exact⟨key 0 (by omega),key 1 (by omega),key 2 (by omega),key 3 (by omega),key 4 (by omega),key 5 (by omega),key 6 (by omega),key 7 (by omega),hb.frozen⟩
abbrev acX:=List (tBA×Int)
structure lS where
 ls:List bI
 ats:List Int
 lab:acX
 r:RS
def oU(ls:List bI):Bool:=match ls.getLast? with
 |none=>false
 |some i=>jH i.word
def jO(a b:tBA):Bool:=Op.bytesLess a.toList b.toList
structure yY where
 name:tBA
 slots:Nat
theorem Sl.setAt{w:tW}{e:TypeId}{size:Nat}{g n cap:Nat}{xs:List Value}(h:Sl w e size (.slice (some ⟨g,0,none⟩) n cap) n xs)(j:Nat)(u:Value)(_hj:j<n*size):Sl (w.setCell ⟨g,j,none⟩ u) e size (.slice (some ⟨g,0,none⟩) n cap) n (xs.set j u):=by
 refine⟨by rw[List.length_set];exact h.1,?_⟩;rcases h.2 with⟨h',_⟩ |⟨g',cap',cur,h',h0,hg,hn,hm,hs,ht⟩
 ·cases h'
 ·cases h';refine .inr ⟨g,cap,cur.setIfInBounds j u,rfl,h0,aq.set (t:=e) hg j u,hn,hm,by simpa using hs,?_⟩;rw[Array.toList_setIfInBounds,<-ht,List.take_set]
structure Mh where
 vL:Value
 vA:Value
 vB:Value
 vP:Value
def Mh.nil:Mh:=⟨.slice none 0 0,.slice none 0 0,.slice none 0 0,.slice none 0 0⟩

structure SlB(size:Nat)(cs:tAV)(cap n:Nat)(xs:List Value):Prop where
 nc:n<=cap
 cm:cap<=maxLen
 sz:cs.size=cap*size
 tk:cs.toList.take (n*size)=xs
 ln:xs.length=n*size
theorem SlB.sl{size:Nat}{cs:tAV}{cap n:Nat}{xs:List Value}(h:SlB size cs cap n xs){w:tW}{g:Nat}{e:TypeId}(hb:aq w g cs e):Sl w e size (.slice (some ⟨g,0,none⟩) n cap) n xs :=
 ⟨h.ln,.inr ⟨g,cap,cs,rfl,Nat.zero_le _,hb,h.nc,h.cm,h.sz,h.tk⟩⟩
theorem Vf:(prog.info? 64).map (λi=>(i.zero,i.size,i.bytes))=some (some (.agg #[.string E0,.int .i64 0,.int .i64 0,.int .i64 0]),4,40):=by kernel_rfl
theorem YY:(prog.info? 57).map (λi=>(i.zero,i.size,i.bytes))=some (some (.agg #[.string E0,.slice none 0 0,.slice none 0 0,.int .i64 0,.slice none 0 0,.slice none 0 0,.int .i64 0,.slice none 0 0]),8,152):=by kernel_rfl
structure YZ(w:tW)(fb off slots:Nat)(vL vA vB vP:Value)(name:tBA)(ls:List bI)(ats:List Int)(lab:List (tBA×Int)):Prop where
 c0:w.cell? ⟨fb,off,none⟩=some (.string name)
 c1:w.cell? ⟨fb,off+1,none⟩=some vL
 c2:w.cell? ⟨fb,off+2,none⟩=some vA
 c3:w.cell? ⟨fb,off+3,none⟩=some (.int .i64 slots)
 c4:w.cell? ⟨fb,off+4,none⟩=some vB
 c5:w.cell? ⟨fb,off+5,none⟩=some vP
 lt:fb<w.heap.size
 sl:Sl w 43 8 vL ls.length (mK ls)
 sa:Sl w 3 1 vA ats.length (jf ats)
 sb:Sl w 9 1 vB lab.length (Db (lab.map (·.1)))
 sp:Sl w 3 1 vP lab.length (jf (lab.map (·.2)))
theorem YZ.quiet{w w':tW}{fb off slots:Nat}{vL vA vB vP:Value}{name:tBA}{ls:List bI}{ats:List Int}{lab:List (tBA×Int)}(h:YZ w fb off slots vL vA vB vP name ls ats lab)(m:aa af w w'):YZ w' fb off slots vL vA vB vP name ls ats lab:=by have hb:w'.heap[fb]?=w.heap[fb]?:=m.block fb h.lt (λe=>e);have hc:∀o,w'.cell? ⟨fb,o,none⟩=w.cell? ⟨fb,o,none⟩:=λo=>World.cell?_of_block (a:=⟨fb,o,none⟩) hb;exact⟨(hc _).trans h.c0,(hc _).trans h.c1,(hc _).trans h.c2,(hc _).trans h.c3,(hc _).trans h.c4,(hc _).trans h.c5,Nat.lt_of_lt_of_le h.lt m.size,h.sl.ah m (λ_ _ e=>e),h.sa.ah m (λ_ _ e=>e),h.sb.ah m (λ_ _ e=>e),h.sp.ah m (λ_ _ e=>e)⟩
structure MOk(m:bz):Prop where
 n:m.name.size<=300
 k0:0<=m.key
 k1:m.key<=255
 v0:0<=m.value
 v1:m.value<=255
 e0:0<=m.entries
 e1:m.entries<=255
