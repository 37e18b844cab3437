import Derived.Test.YthnphhgpfedeeaaGreatDoorCF14
import Derived.Lib.AppendZerosOnto
import Derived.Test.YthnphhgpfedeeaaGreatDoorCF04
import Derived.Test.YthnphhgpfedeeaaGreatDoorCF15
namespace Go.Proofs.YthnphhgpfedeeaaGreatDoor
open Go.RowKit Tryz
open List renaming take_succ_eq_append_getElem->al,getElem_mem->an,flatMap_append->ao,flatMap_cons->ar,takeWhile_cons->aE,length_append->ba,nodup_append->bh,isPrefixOf->bj,getElem_of_mem->bq,take_length->bQ,not_mem_nil->b5,flatMap_nil->b9
open Nat renaming zero_le->ab,zero_add->bt,le_refl->bO
set_option linter.all false
set_option maxRecDepth 100000
set_option maxHeartbeats 2000000
theorem SH(w:tW)(n:Nat)(h0:0<n)(hn:n<=1000):Calls prog 103 #[.slice none 0 0,.int .i64 n] w λe w'=>∃cap,e=.returned (.slice (some ⟨w.heap.size,0,none⟩) 0 cap)/\Sl w' 135 1 (.slice (some ⟨w.heap.size,0,none⟩) 0 cap) 0 []/\aa ae w w':=by
 obtain⟨iP,hiP,rX,hsP,wj⟩:=info_parts rV;have hold:(Builtin.firstCells iP.size 0 (.slice none 0 0)).run prog w.drew=.ok ([]:List Value).toArray w.drew:=run_firstCells_none w.drew iP.size 0 0 0
 have hrz:∀ty,(Builtin.append_ #[93,3] ty #[.slice none 0 0,.int .i64 n]).run prog w =
   .ok (.slice (some ⟨w.heap.size,0,none⟩) n (grownCap w n 0 135)) (w.drew.alloc (.cells (([]:List Value).toArray++Builtin.zeroCells (Value.pointer none).cells n++Builtin.zeroCells (Value.pointer none).cells (grownCap w n 0 135-n)) 135)):=λty=>by
  have h:=Lib.run_append_grow_zeros w 93 3 ty 135 iP (.pointer none) .i64 .i64 underlying93 underlying3 hiP rX none 0 0 [] hold n h0 (by rw[hsP];decide) (by omega) (by omega) (by rw[wj];omega)
   (by rw[wj,bt];exact growslice_fits (by omega) (by omega))
  rw[bt]at h;exact h
 have hGn:n<=grownCap w n 0 135:=grownCap_ge w _ _ _;have hGm:grownCap w n 0 135<=maxLen:=grownCap_le_maxLen w n 0 135 (by unfold maxLen;omega);have hsz:(([]:List Value).toArray++Builtin.zeroCells (Value.pointer none).cells n++Builtin.zeroCells (Value.pointer none).cells (grownCap w n 0 135-n)).size=grownCap w n 0 135:=by simp[Builtin.zeroCells,Value.cells];omega
 generalize([]:List Value).toArray++Builtin.zeroCells (Value.pointer none).cells n++Builtin.zeroCells (Value.pointer none).cells (grownCap w n 0 135-n)=cs at *;generalize grownCap w n 0 135=G at *;have hS:Sl (w.drew.alloc (.cells cs 135)) 135 1 (.slice (some ⟨w.heap.size,0,none⟩) 0 G) 0 []:=VR.sl ⟨ab _,hGm,by omega,by simp,rfl⟩ (ak.new w.drew cs 135);have HS:af _:=hS;unfold maxLen at hGm;clear hold hS;go_enter func103,ntmps103;go_wp2_with (at_builtin;refine Lib.wpList_append_run _ rfl _ _ _ _ rfl _ _ rfl rfl _ _ (hrz _) ?_)
 all_goals
  go_ret;exact⟨G,rfl,HS.o,aJ.alloc _⟩
structure Seg where
 g:Nat
 c:Nat
 bs:List Nat
 os:List dY
def Seg.val(s:Seg):Value:=.slice (some ⟨s.g,0,none⟩) s.bs.length s.c
theorem aH.keep{base:Nat}{w w':tW}{v u:Value}{bs:List Nat}{os:List dY}{n:Nat}{xs:List Value}(h:aH base w v bs os)(hu:Sl w 135 1 u n xs)(m:aa (λk=>u.ownBlock=some k) w w')(hne:∀k,v.ownBlock=some k->u.ownBlock≠some k):aH base w' v bs os:=by have hk:=aa.Eu hu m;refine⟨h.len,h.nd,h.sl.ag m (λk hk' e=>hne k hk' e),λi h1 h2=>?_,h.lo,h.own⟩;have ha:=h.at' i h1 h2;exact ha.kpb hk (m.block _ ha.lt (λe=>ha.JM hu e))
structure OK(w0:tW)(aU:List Seg)(k:Nat)(v:Value)(w:tW):Prop where
 acc:aH 0 w v ((aU.take k).flatMap Seg.bs) ((aU.take k).flatMap Seg.os)
 each:∀s∈aU,aH 0 w s.val s.bs s.os
 own:∀s∈aU,v.ownBlock≠some s.g
 new:∀j,v.ownBlock=some j->w0.heap.size<=j
 md:aa ae w0 w
theorem JY(aU:List Seg)(k:Nat)(hs:∀s∈aU,s.bs.length<=100):((aU.take k).flatMap Seg.bs).length<=100*aU.length:=by
 have h:∀l:List Seg,(∀s∈l,s.bs.length<=100)->(l.flatMap Seg.bs).length<=100*l.length:=by
  intro l;induction l with
  |nil=>intro _;simp
  |cons x l ih =>intro hl;have h1:=hl x (by simp);have h2:=ih (λs hs=>hl s (List.mem_cons_of_mem _ hs));rw[ar,ba,List.length_cons];omega
 have h1:=h (aU.take k) (λs hs'=>hs s (List.mem_of_mem_take hs'));have h2:(aU.take k).length<=aU.length:=by simp;omega
 omega
theorem EN(aU:List Seg)(k:Nat)(h:k<aU.length):((aU.take (k+1)).flatMap Seg.bs).length=((aU.take k).flatMap Seg.bs).length+aU[k].bs.length:=by rw[al h,ao,ba];simp
theorem WZ(aU:List Seg)(h0:0<aU.length)(h:∀s∈aU,0<s.bs.length):0<(aU.flatMap Seg.bs).length:=by
 match aU,h0,h with
 |s::l,_,h =>have:=h s List.mem_cons_self;rw[ar,ba];omega
theorem OK.step{w0 w w':tW}{aU:List Seg}{k:Nat}{v v':Value}(h:OK w0 aU k v w)(hk:k<aU.length)(hnd:(aU.flatMap Seg.bs).Nodup)(hsl:Sl w' 135 1 v' (((aU.take k).flatMap Seg.bs).length+aU[k].bs.length) (((aU.take k).flatMap Seg.bs).map fF++aU[k].bs.map fF)) (m:aa (λj=>v.ownBlock=some j) w w') (ho:∀j,v'.ownBlock=some j->v.ownBlock=some j\/w.heap.size<=j):OK w0 aU (k+1) v' w':=by
 have e1:(aU.take (k+1)).flatMap Seg.bs=(aU.take k).flatMap Seg.bs++aU[k].bs:=by rw[al hk,ao];simp
 have e2:(aU.take (k+1)).flatMap Seg.os=(aU.take k).flatMap Seg.os++aU[k].os:=by rw[al hk,ao];simp
 have hs:=h.each aU[k] (an hk);refine⟨?_,λs hs'=>?_,λs hs' e=>?_,λj hj=>?_,h.md.step m (λi hi e=>by have:=h.new i e;omega)⟩
 ·rw[e1,e2];refine h.acc.app hs.len ?_ hs.at' hs.lo hsl m ho (ab _);rw[<-e1];have e3:aU.flatMap Seg.bs=(aU.take (k+1)).flatMap Seg.bs++(aU.drop (k+1)).flatMap Seg.bs:=by rw[<-ao,List.take_append_drop]
  rw[e3]at hnd;exact(List.nodup_append.1 hnd).1
 ·exact(h.each s hs').keep h.acc.sl m (λj hj e=>h.own s hs' (by rw[e];cases hj;rfl))
 ·rcases ho _ e with e'|e'
  ·exact h.own s hs' e'
  ·have:=(h.each s hs').sl.lt s.g rfl;omega
 ·rcases ho j hj with e|e
  ·exact h.new j e
  ·have:=h.md.size;omega
theorem JZ(w:tW)(g c:Nat)(aU:List Seg)(hS:Sl w 93 1 (.slice (some ⟨g,0,none⟩) aU.length c) aU.length (aU.map Seg.val))(he:∀s∈aU,aH 0 w s.val s.bs s.os)(hb:∀s∈aU,0<s.bs.length/\s.bs.length<=100)(hl:aU.length<=10)(h0:0<aU.length)(hnd:(aU.flatMap Seg.bs).Nodup):Calls prog 63 #[.slice (some ⟨g,0,none⟩) aU.length c] w λe w'=>∃v,e=.returned v/\aH 0 w' v (aU.flatMap Seg.bs) (aU.flatMap Seg.os)/\aa ae w w':=by
 obtain⟨iP,hiP,rX,hsP,wj⟩:=info_parts rV;have hcell:∀(k:Nat) (hk:k<aU.length),w.cell? ⟨g,k,none⟩=some (.slice (some ⟨aU[k].g,0,none⟩) aU[k].bs.length aU[k].c):=by intro k hk;obtain⟨g',hg',cs⟩:=hS.at rfl k hk;cases hg';rw[cs k hk];simp[hk,Seg.val]
 have aeV:g<w.heap.size:=hS.lt g rfl
 have adX:∀s∈aU,g≠s.g:=by
  intro s hs e;have h1:=(he s hs).sl;rcases h1.2 with⟨h1,_⟩ |⟨g1,_,_,hv,_,hb1,_⟩
  ·cases h1
  ·cases hv;rcases hS.2 with⟨h2,_⟩ |⟨g2,_,_,hv2,_,hb2,_⟩
   ·cases h2
   ·cases hv2;rw[e]at hb2;rw[hb1]at hb2;cases hb2
 have HC:=ai hcell;have HE:=ai he;have HB:=ai hb;have HND:af _:=hnd;obtain⟨F,HF⟩:∃F:Nat->Nat,af (∀k,F k=((aU.take k).flatMap Seg.bs).length):=⟨λk=>((aU.take k).flatMap Seg.bs).length,λ_=>rfl⟩
 obtain⟨X,HX⟩:∃X:Nat->List Value,af (∀k,X k=((aU.take k).flatMap Seg.bs).map fF):=⟨λk=>((aU.take k).flatMap Seg.bs).map fF,λ_=>rfl⟩
 have SI:af (∀k,F k<=1000):=λk=>by have:=JY aU k (λs hs=>(HB.o s hs).2);rw[HF.o k];omega
 have HST:af (∀k (hk:k<aU.length),F (k+1)=F k+aU[k].bs.length):=λk hk=>by rw[HF.o,HF.o];exact EN aU k hk
 have HF0:af (F 0=0):=by rw[af,HF.o];rfl
 have HP:af (0<F aU.length):=by rw[af,HF.o,bQ];exact WZ aU h0 (λs hs=>(HB.o s hs).1)
 clear hcell he hb hnd hS adX;go_enter func63,ntmps63;go_upto_block 0 with fail;go_cut [3] (λsv wl=>sv=.int .i64 (F aU.length)/\wl=w)
 case first =>
  go_wp2_with fail;go_loop [3,11] (λsv i=>∃k:Nat,k<=aU.length/\i=.int .i64 k/\sv=.int .i64 (F k)) (λ_ i=>aU.length-(intOf i).toNat)
  case atStart=>exact⟨0,ab _,rfl,by rw[HF0.o];rfl⟩
  case round =>
   obtain⟨k,hk,rfl,rfl⟩:=hrel;by_cases hlt:k<aU.length
   ·have ck:=HC.o k hlt;have e1:=HST.o k hlt;have e2:=SI.o k;have e3:=SI.o (k+1);have HK:=ai e1;rw[e1]at e3;clear e1;generalize aU[k].bs.length=sn at *;generalize aU[k].g=sg at *;generalize aU[k].c=sc at *;go_wp2_with fail;go_round
    case rel=>exact⟨k+1,by omega,by go_num,by rw[HK.o];go_num⟩
    case measure=>simp[intOf];omega
   ·obtain rfl:k=aU.length:=by omega
    go_wp2_with fail;go_meet;exact⟨rfl,rfl⟩
 case rest =>
 obtain⟨rfl,hw⟩:=hcut;have hw':=hw.symm;clear hw;subst hw';have hp:=HP.o;have hm:=SI.o aU.length;go_wp2_with fail;refine(SH _ _ hp hm).mono ?_;rintro e w1 ⟨cap,rfl,s1,m1⟩;have HR:af (OK w aU 0 (.slice (some ⟨w.heap.size,0,none⟩) 0 cap) w1):=⟨⟨rfl,List.nodup_nil,s1,λi h=>absurd h (by simp),λb h=>(by cases h),λ_ _=>ab _⟩,λs hs=>(HE.o s hs).ag m1,λs hs e=>by have h1:=(HE.o s hs).sl.lt s.g rfl;have h2:w.heap.size=s.g:=Option.some.inj e;omega,λj hj=>by cases hj;exact bO _,m1⟩
 clear s1 m1;generalize F aU.length=FL at *;go_wp2_with fail;go_loopw [6,27] (λv i wl=>∃k:Nat,k<=aU.length/\i=.int .i64 k/\OK w aU k v wl) (λ_ i _=>aU.length-(intOf i).toNat)
 case atStart=>exact⟨0,ab _,rfl,HR.o⟩
 case round =>
  obtain⟨k,hk,rfl,hr⟩:=hrel;clear HR;have HR:=ai hr;by_cases hlt:k<aU.length
  ·have hlt':k<aU.length:=hlt;have ck:=oo hr.md (HC.o k hlt);have HSg:af (aH 0 wr aU[k].val aU[k].bs aU[k].os):=hr.each aU[k] (an hlt');have hbk:=HB.o aU[k] (an hlt')
   have HNw:af (∀j u,(aU[k].bs.map fF)[j]?=some u->wr.cell? ((⟨aU[k].g,0,none⟩:Addr).add j)=some u):=λj u hu=>by
    obtain⟨g',hg',cs⟩:=HSg.o.sl.at rfl 0 hbk.1;cases hg';have hadd:(⟨aU[k].g,0,none⟩:Addr).add j=⟨aU[k].g,j,none⟩:=by unfold Addr.add;split<;>simp_all
    have hj:j<aU[k].bs.length:=by
     have:=(List.getElem?_eq_some_iff.1 hu).1
     simpa using this
    rw[hadd,cs j hj];exact hu
   have e2:=SI.o k;have e3:=SI.o (k+1);rw[HST.o k hlt']at e3;have HSl:af (Sl wr 135 1 u6 (F k) (X k)):=by have:=hr.acc.sl;rw[af,HF.o,HX.o];exact this
   have abR:af (∀v' w',Sl w' 135 1 v' (F k+aU[k].bs.length) (X k++aU[k].bs.map fF)->aa (λj=>u6.ownBlock=some j) wr w'->(∀j,v'.ownBlock=some j->u6.ownBlock=some j\/wr.heap.size<=j)->OK w aU (k+1) v' w'):=λv' w' s m l=>by rw[HF.o,HX.o]at s;exact HR.o.step hlt' HND.o s m l
   have VP:af ((aU[k].bs.map fF).length=aU[k].bs.length*1):=by simp[af]
   have Cz:af (∀u∈aU[k].bs.map fF,u.oneCell'=true):=rW _;clear hr HSg;generalize aU[k].bs.map fF=nws at *;generalize aU[k].bs.length=sn at *;generalize aU[k].g=sg at *;generalize aU[k].c=sc at *;generalize X k=xk at *;generalize F k=fk at *;go_wp2_with (at_builtin;refine aL _ rfl (.tmp 31) (.tmp 32) 93 rfl 135 iP (.pointer none) 1 8 underlying93 hiP rX hsP wj rfl (by decide) u6 fk xk rfl HSl.o ⟨sg,0,none⟩ sn sc nws rfl VP.o HNw.o Cz.o (by unfold maxLen;omega) (by omega) ?_;intro vA wA sA mA lA;obtain⟨oA,cA,rfl,_⟩:=Sl.view sA);go_roundw
   case rel=>exact⟨k+1,by omega,by go_num,abR.o _ _ sA mA lA⟩
   case measure=>simp[intOf];omega
  ·obtain rfl:k=aU.length:=by omega
   have hA:=HR.o.acc;rw[bQ]at hA;have HA:af _:=hA;clear hA hr;go_wp2_with fail;go_ret;exact⟨_,rfl,HA.o,HR.o.md⟩
theorem aH.base{base b2:Nat}{w:tW}{v:Value}{bs:List Nat}{os:List dY}(h:aH base w v bs os)(hb:b2<=base):aH b2 w v bs os :=
 ⟨h.len,h.nd,h.sl,h.at',λb hb'=>Nat.le_trans hb (h.lo b hb'),λk hk=>Nat.le_trans hb (h.own k hk)⟩
theorem aH.AO{base:Nat}{w:tW}{v:Value}{bs:List Nat}{os:List dY}(h:aH base w v bs os)(h0:0<os.length):∃g c,v=.slice (some ⟨g,0,none⟩) bs.length c:=by obtain⟨o,c,rfl,hh⟩:=h.sl.view;obtain⟨g,cs,rfl,_⟩:=hh (by rw[h.len];exact h0);exact⟨g,c,rfl⟩
theorem yC(w:tW)(hE:sV w):Calls prog 37 #[] w λe w'=>∃v bs,e=.returned v/\aH 0 w' v bs aq/\aa ae w w':=by
 have HE:=ai hE;clear hE;go_enter func37,ntmps37;go_wp2_with fail;refine(Ew _).mono ?_;rintro e w1 ⟨v1,bs1,rfl,o1,m1⟩;obtain⟨g1,c1,rfl⟩:=o1.AO (by decide);have O1:af _:=o1;have M1:af _:=m1;clear o1 m1;go_wp2_with fail;refine(Gx _).mono ?_;rintro e w2 ⟨v2,bs2,rfl,o2,m2⟩;obtain⟨g2,c2,rfl⟩:=o2.AO (by decide);have O2:af _:=o2;have M2:af _:=m2;clear o2 m2;go_wp2_with fail;refine(JU _ (HE.o.ag (M1.o.trans M2.o))).mono ?_;rintro e w3 ⟨v3,bs3,rfl,o3,m3⟩;obtain⟨g3,c3,rfl⟩:=o3.AO (by decide);have O3:af _:=o3;have M3:af _:=m3;clear o3 m3;go_wp2_with fail;refine(EM _).mono ?_;rintro e w4 ⟨v4,bs4,rfl,o4,m4⟩;obtain⟨g4,c4,rfl⟩:=o4.AO (by decide);have O4:af _:=o4;have M4:af _:=m4;clear o4 m4;have l1:bs1.length=50:=O1.o.len.trans (by decide);have l2:bs2.length=23:=O2.o.len.trans (by decide);have l3:bs3.length=12:=O3.o.len.trans (by decide);have l4:bs4.length=3:=O4.o.len.trans (by decide)
 have HK:af (∃aU:List Seg,aU=[⟨g1,c1,bs1,JE⟩,⟨g2,c2,bs2,LA⟩,⟨g3,c3,bs3,aah⟩,⟨g4,c4,bs4,Er⟩]/\(∀s∈aU,aH 0 w4 s.val s.bs s.os)/\(∀s∈aU,0<s.bs.length/\s.bs.length<=100)/\(aU.flatMap Seg.bs).Nodup):=by
  refine⟨_,rfl,?_,?_,?_⟩
  ·simp only[List.mem_cons,b5,or_false];rintro s (rfl|rfl|rfl|rfl)
   ·exact(((O1.o.ag M2.o).ag M3.o).ag M4.o).base (ab _)
   ·exact((O2.o.ag M3.o).ag M4.o).base (ab _)
   ·exact(O3.o.ag M4.o).base (ab _)
   ·exact O4.o.base (ab _)
  ·simp only[List.mem_cons,b5,or_false];rintro s (rfl|rfl|rfl|rfl)<;>simp only<;>omega
  ·have a1:=O1.o.lt;have a2:=O2.o.lt;have a3:=O3.o.lt;have b2:=O2.o.lo;have b3:=O3.o.lo;have b4:=O4.o.lo;have s2:=M2.o.size;have s3:=M3.o.size;simp only[ar,b9,List.append_nil];rw[bh,bh,bh];refine⟨O1.o.nd,⟨O2.o.nd,⟨O3.o.nd,O4.o.nd,λa ha b hb e=>?_⟩,λa ha b hb e=>?_⟩,λa ha b hb e=>?_⟩
   ·have:=a3 a ha;have:=b4 b hb;omega
   ·rcases List.mem_append.1 hb with hb|hb
    ·have:=a2 a ha;have:=b3 b hb;omega
    ·have:=a2 a ha;have:=b4 b hb;omega
   ·rcases List.mem_append.1 hb with hb|hb
    ·have:=a1 a ha;have:=b2 b hb;omega
    ·rcases List.mem_append.1 hb with hb|hb
     ·have:=a1 a ha;have:=b3 b hb;omega
     ·have:=a1 a ha;have:=b4 b hb;omega
 have HM:af (aa ae w w4):=((M1.o.trans M2.o).trans M3.o).trans M4.o;rw[l1,l2,l3,l4]
 have HS:af (Sl (w4.alloc (.cells #[.slice (some ⟨g1,0,none⟩) 50 c1,.slice (some ⟨g2,0,none⟩) 23 c2,.slice (some ⟨g3,0,none⟩) 12 c3,.slice (some ⟨g4,0,none⟩) 3 c4] 93)) 93 1 (.slice (some ⟨w4.heap.size,0,none⟩) 4 4) 4 [.slice (some ⟨g1,0,none⟩) 50 c1,.slice (some ⟨g2,0,none⟩) 23 c2,.slice (some ⟨g3,0,none⟩) 12 c3,.slice (some ⟨g4,0,none⟩) 3 c4]) :=
  VR.sl ⟨bO _,by unfold maxLen;decide,rfl,rfl,rfl⟩ (ak.new w4 _ 93)
 clear O1 O2 O3 O4 M1 M2 M3 M4 HE;go_wp2_with fail;obtain⟨aU,he,h1,h2,h3⟩:=HK.o;have hS:Sl (w4.alloc (.cells #[.slice (some ⟨g1,0,none⟩) 50 c1,.slice (some ⟨g2,0,none⟩) 23 c2,.slice (some ⟨g3,0,none⟩) 12 c3,.slice (some ⟨g4,0,none⟩) 3 c4] 93)) 93 1 (.slice (some ⟨w4.heap.size,0,none⟩) aU.length 4) aU.length (aU.map Seg.val):=by rw[he];simp only[List.map_cons,List.map_nil,Seg.val,l1,l2,l3,l4];exact HS.o
 have hC:=JZ _ _ _ aU hS (λs hs=>(h1 s hs).ag aj) h2 (by rw[he];simp) (by rw[he];simp) h3;have e4:aU.length=4:=by rw[he];rfl
 rw[e4]at hC;refine hC.mono ?_;rintro e w5 ⟨v5,rfl,o5,m5⟩
 have O5:af (aH 0 w5 v5 (aU.flatMap Seg.bs) aq):=by
  have e5:aU.flatMap Seg.os=aq:=by rw[he];simp only[ar,b9,List.append_nil,aq,List.append_assoc]
  rw[af,<-e5];exact o5
 have M5:af (aa ae w w5):=(HM.o.alloc _).trans m5;clear o5 m5 hC hS;go_wp2_with fail;go_ret;exact⟨_,_,rfl,O5.o,M5.o⟩
theorem contains_eq(ws:List tLB)(x:tLB):Lib.containsS (ws.map T) (T x)=ws.contains x:=by
 rw[Bool.eq_iff_iff,Lib.containsS_iff,List.contains_iff_mem,List.mem_map];constructor
 ·rintro⟨a,ha,e⟩;rw[<-nz e];exact ha
 ·intro h;exact⟨x,h,rfl⟩
theorem uJ(ws:List tLB)(x:tLB)(v:Value)(w:tW)(h:Sl w 9 1 v ws.length (ws.map (λt=>.string (T t))))(hn:0<ws.length)(hl:ws.length<=1000):Calls prog 255 #[v,.string (T x)] w λe w'=>e=.returned (.bool (ws.contains x))/\w'=w:=by
 obtain⟨o,c,rfl,h2⟩:=h.view;obtain⟨g,cs,rfl,hb,ht,_,_⟩:=h2 hn
 have:=Any.slices_Contains_string lk g 0 ws.length c (ws.map T) (T x) w (by simp) (by omega) (λj hj=>by
  have hj':j<ws.length:=by simpa using hj
  rw[bt,aW hb ht j (by omega)];simp[hj'])
 rw[List.take_of_length_le (by simp),contains_eq]at this;exact this
theorem Di(o:dY):0<o.words.length/\o.words.length<=2:=by unfold dY.words;split<;>simp
theorem bY.aam{w:tW}{b:Nat}{o:dY}(h:bY w b o)(x:tLB):∃v1:Value,(∃a n c,v1=.slice a n c)/\(∀w',aa ae w w'->w'.cell? ⟨b,1,none⟩=some v1)/\∀w',aa ae w w'->Calls prog 255 #[v1,.string (T x)] w' λe w''=>e=.returned (.bool (o.words.contains x))/\w''=w':=by obtain⟨o1,n1,c1,f6,c6,k7,c7,k8,c8,f9,c9,hblk,EO⟩:=h.ex;have hw:=Di o;exact⟨_,⟨_,_,_,rfl⟩,λw' m=>(hblk.ag m id).cell 1,λw' m=>uJ _ x _ w' (EO.ws.ag m (λ_ _=>id)) hw.1 (by omega)⟩
theorem GA{w:tW}{v:Value}{bs:List Nat}{os:List dY}(h:aH 0 w v bs os):∃o c,v=.slice o os.length c/\∀k (hk:k<os.length),∃g,o=some ⟨g,0,none⟩/\∀w',aa ae w w'->w'.cell? ⟨g,k,none⟩=some (.pointer (some ⟨bs[k]?.getD 0,0,none⟩)):=by
 obtain⟨o,c,hv,h2⟩:=h.sl.view;rw[h.len]at hv;refine⟨o,c,hv,λk hk=>?_⟩;have hkb:k<bs.length:=by rw[h.len];exact hk
 obtain⟨g,cs,ho,hb,ht,_,_⟩:=h2 (by omega);refine⟨g,ho,λw' m=>?_⟩;rw[aW (hb.ag m id) ht k (by omega),List.getElem?_map,List.getElem?_eq_getElem hkb];rfl
theorem SK{w:tW}{v:Value}{bs:List Nat}{os:List dY}(h:aH 0 w v bs os)(k:Nat)(hk:k<os.length):bY w (bs[k]?.getD 0) os[k]:=by
 have hkb:k<bs.length:=by rw[h.len];exact hk
 have:=h.at' k hkb hk;rw[List.getElem?_eq_getElem hkb];exact this
theorem J3(wT w:tW)(v:Value)(bs:List Nat)(x:tLB)(hO:aH 0 wT v bs aq)(m:aa ae wT w):Calls prog 254 #[v,.string (T x)] w λe w'=>e=.returned (.bool (jW x))/\w'=w:=by
 have hO1:=hO.ag m;obtain⟨o,c,rfl,hcell⟩:=GA hO1;have HAT:af (∀k (hk:k<aq.length),bY w (bs[k]?.getD 0) aq[k]):=λk hk=>SK hO1 k hk;have HB:af (∀k,(∀j (hj:j<k) (h:j<aq.length),aq[j].words.contains x=false)->aq.length<=k->jW x=false):=λk h1 h2=>by unfold jW;rw[List.any_eq_false];intro y hy;obtain⟨j,hj,rfl⟩:=bq hy;rw[h1 j (by omega) hj];simp
 have HB1:af (∀k (h:k<aq.length),aq[k].words.contains x=true->jW x=true):=λk h h1=>by unfold jW;rw[List.any_eq_true];exact⟨_,an h,h1⟩
 have abS:aq.length<=1000:=by rw[dZ];omega
 have HC:=ai hcell;clear hO hO1 m hcell;generalize jW x=bx at *;generalize aq=os at *;go_enter func254,ntmps254;go_wp2_with fail;go_loop [9] (λv=>∃k:Nat,k<=os.length/\v=.int .i64 k/\∀j (hj:j<k) (h:j<os.length),os[j].words.contains x=false) (λv=>os.length-(intOf v).toNat)
 case atStart=>exact⟨0,ab _,rfl,λj hj=>absurd hj (Nat.not_lt_zero _)⟩
 case round =>
  obtain⟨k,hk,rfl,hj⟩:=hrel;have HJ:=ai hj;clear hj;by_cases hlt:k<os.length
  ·obtain⟨g,rfl,hg⟩:=HC.o k hlt;have q0:=hg w ax;obtain⟨v1,⟨va,vn,vc,rfl⟩,hv1,hct⟩:=(HAT.o k hlt).aam x;have q1:=hv1 w ax;have Zw:af (Calls prog 255 #[.slice va vn vc,.string (T x)] w λe w''=>e=.returned (.bool (os[k].words.contains x))/\w''=w):=hct w ax;clear hg hv1 hct HC;cases hc:os[k].words.contains x with
   |true =>have HX:=ai (HB1.o k hlt hc);go_wp2_with fail;refine Zw.o.mono ?_;rintro e w1 ⟨rfl,rfl⟩;rw[hc];go_wp2_with fail;go_ret;rw[HX.o];exact⟨rfl,rfl⟩
   |false =>
    have FW:af (∀j (hj:j<k+1) (h:j<os.length),os[j].words.contains x=false):=λj hj h=>by
     rcases Nat.lt_or_ge j k with e|e
     ·exact HJ.o j e h
     ·have:j=k:=by omega
      subst this;exact hc
    go_wp2_with fail;refine Zw.o.mono ?_;rintro e w1 ⟨rfl,rfl⟩;rw[hc];go_wp2_with fail;go_round
    case rel=>exact⟨k+1,by omega,by go_num,FW.o⟩
    case measure=>simp[intOf];omega
  ·have HX:=ai (HB.o k HJ.o (by omega));go_wp2_with fail;go_ret;rw[HX.o];exact⟨rfl,rfl⟩
theorem jw{P:Program}{fn:Func}{p u1 u2:Tmp}{ty:TypeId}(h:fn.results=#[.cell p ty,.tmp u1,.tmp u2])(tmps:tAV)(w:tW)(g:Nat)(t:TypeId)(cs:tAV)(fr:Nat×Nat)(d:TypeDesc)(v1 v2:Value)(hp:tmps.getD p undef=.pointer (some ⟨g,0,none⟩)) (hv1:tmps.getD u1 undef=v1) (hv2:tmps.getD u2 undef=v2) (hg:w.heap[g]?=some (.cells cs t fr))(hu:P.underlying ty=some d) (hd:(match d with|.struct _|.array _ _=>true|_=>false)=true) (hi:(P.info? ty).map (·.size)=some cs.size):(results fn tmps).run P w=.ok (.tuple #[.agg cs,v1,v2]) w:=by
 have hp':tmps[p]?.getD undef=.pointer (some ⟨g,0,none⟩):=by simpa using hp
 have h1':tmps[u1]?.getD undef=v1:=by simpa using hv1
 have h2':tmps[u2]?.getD undef=v2:=by simpa using hv2
 simp only[results,h];simp[hp',h1',h2',asAddr,run_loadVar_row w g t ty cs fr d hg hu hd hi]
structure bD.qz(r:bD):Prop where
 d:r.d<=15
 s:r.s<=15
 j0:-32768<=r.jump
 j1:r.jump<=32767
 n0:-2147483648<=r.num
 n1:r.num<=2147483647
 h0:-2147483648<=r.high
 h1:r.high<=2147483647
 l:r.label.length<=100
 m:r.name.length<=300
theorem vg{l:tLB}(h:nameB l=true):l.length<=16:=by unfold nameB at h;simp only[Bool.and_eq_true,decide_eq_true_eq]at h;exact h.1.1
theorem GD{w:tLB}{n:Nat}(h:aZ w=some n):n<=10:=by unfold aZ at h;have h2:=List.mem_of_find?_eq_some h;simp at h2;omega
theorem Dj(v:Nat):-2147483648<=nY v/\nY v<=2147483647:=by unfold nY;omega
theorem SL(p:PK)(r r':bD)(h:p.read r=some r')(hf:r.qz):r'.qz:=by
 obtain⟨fd,fs,SN,SQ,fn0,VU,Rh,Ri,fl,fm⟩:=hf
 have hm:∀c:UInt8,r.mark c=some r'->r'.qz:=λc h=>by
  unfold bD.mark at h;split at h
  ·cases h;exact⟨fd,fs,SN,SQ,fn0,VU,Rh,Ri,fl,fm⟩
  ·cases h
 have hd:r.rO=some r'->r'.qz:=λh=>by unfold bD.rO at h;obtain⟨v,hv,rfl⟩:=Option.map_eq_some_iff.1 h;exact⟨by have:=GD hv;show v<=15;omega,fs,SN,SQ,fn0,VU,Rh,Ri,fl,fm⟩
 have hs:r.wR=some r'->r'.qz:=λh=>by unfold bD.wR at h;obtain⟨v,hv,rfl⟩:=Option.map_eq_some_iff.1 h;exact⟨fd,by have:=GD hv;show v<=15;omega,SN,SQ,fn0,VU,Rh,Ri,fl,fm⟩
 have hn:r.number=some r'->r'.qz:=λh=>by unfold bD.number at h;obtain⟨v,hv,rfl⟩:=Option.map_eq_some_iff.1 h;have:=lF v.1 2147483648 (by omega);exact⟨fd,fs,SN,SQ,this.1,by have:=this.2;show(v.1.dV 2147483648).getD 0<=2147483647;omega,Rh,Ri,fl,fm⟩
 have hl:r.lab=some r'->r'.qz:=λh=>by
  unfold bD.lab at h;split at h
  ·rename_i hb
   cases h;exact⟨fd,fs,SN,SQ,fn0,VU,Rh,Ri,by have:=vg hb;show(aG r.rest).1.length<=100;omega,fm⟩
  ·cases h
 have ho:r.off=some r'->r'.qz:=λh=>by
  unfold bD.off at h;split at h
  ·obtain⟨v,hv,rfl⟩:=Option.map_eq_some_iff.1 h;have:=lF ⟨v,true⟩ 32768 (by omega);exact⟨fd,fs,this.1,by have:=this.2;show((bC.mk v true).dV 32768).getD 0<=32767;omega,fn0,VU,Rh,Ri,fl,fm⟩
  ·split at h
   ·obtain⟨v,hv,rfl⟩:=Option.map_eq_some_iff.1 h;have:=lF ⟨v,false⟩ 32768 (by omega);exact⟨fd,fs,this.1,by have:=this.2;show((bC.mk v false).dV 32768).getD 0<=32767;omega,fn0,VU,Rh,Ri,fl,fm⟩
   ·cases h;exact⟨fd,fs,SN,SQ,fn0,VU,Rh,Ri,fl,fm⟩
 have hwd:r.wide=some r'->r'.qz:=λh=>by
  unfold bD.wide at h;split at h
  ·split at h
   ·rename_i hb
    cases h;exact⟨fd,by show 1<=15;omega,SN,SQ,fn0,VU,Rh,Ri,fl,by have:=vg hb;show(aG (aG r.rest).2).1.length<=300;omega⟩
   ·cases h
  ·obtain⟨v,hv,rfl⟩:=Option.map_eq_some_iff.1 h;have h1:=Dj (v.1.dW.getD 0);have h2:=Dj (v.1.dW.getD 0/4294967296);exact⟨fd,fs,SN,SQ,h1.1,h1.2,h2.1,h2.2,fl,fm⟩
 unfold PK.read at h;split at h
 ·exact hm _ h
 ·exact hm _ h
 ·exact hm _ h
 ·exact hd h
 ·exact hd h
 ·exact hs h
 ·exact hn h
 ·exact hl h
 ·exact ho h
 ·exact hwd h
 ·cases h
theorem AP:∀(ps:List PK) (r r':bD),readPs ps r=some r'->r.qz->r'.qz
 |[],r,r',h,hf=>by cases h;exact hf
 |p::ps,r,r',h,hf=>by obtain⟨r1,h1,h2⟩:=Option.bind_eq_some_iff.1 (show(p.read r).bind (readPs ps)=some r' from h);exact AP ps r1 r' h2 (SL p r r1 h1 hf)
theorem SS(r r':bD)(h:r.call=some r')(hf:r.qz):r'.qz:=by
 obtain⟨fd,fs,SN,SQ,fn0,VU,Rh,Ri,fl,fm⟩:=hf;unfold bD.call at h;split at h
 ·split at h
  ·rename_i hb
   cases h;exact⟨fd,by show 1<=15;omega,SN,SQ,fn0,VU,Rh,Ri,fl,by have:=vg hb;show(aG r.rest).1.length<=300;omega⟩
  ·cases h
 ·obtain⟨v,hv,rfl⟩:=Option.map_eq_some_iff.1 h;rw[List.findIdx?_eq_some_iff_getElem]at hv;obtain⟨hv,_⟩:=hv;have hv':v<4:=hv;exact⟨fd,fs,SN,SQ,by show -2147483648<=((1+v:Nat):Int);omega,by show((1+v:Nat):Int)<=2147483647;omega,Rh,Ri,fl,fm⟩
theorem OM(o:dY)(r r':bD)(h:o.read r=some r')(hf:r.qz):r'.qz:=by
 unfold dY.read at h;split at h
 ·exact SS r r' h hf
 ·exact AP _ r r' h hf
def zI(x l:tLB):bD:=⟨x,l,0,0,0,0,0,[],[],false⟩
theorem SV(x l:tLB):(zI x l).qz:=by constructor<;>simp[zI]
def dH.cells(bs:List Nat)(x:dH):tAV:=#[.pointer (some ⟨bs[x.k]?.getD 0,0,none⟩),.int .u8 x.r.d,.int .u8 x.r.s,.int .i16 x.r.jump,.int .i32 x.r.num,.int .i32 x.r.high,.string (T x.r.label),.string (T x.r.name)]
def wZ:tAV:=#[.pointer none,.int .u8 0,.int .u8 0,.int .i16 0,.int .i32 0,.int .i32 0,.string ⟨#[]⟩,.string ⟨#[]⟩]
def sZ(w:tW)(bs:List Nat)(o:Option dH)(e:Ending)(w':tW):Prop :=
 aa ae w w'/\e=.returned (match o with|none=>.tuple #[.agg wZ,.bool false,.bool false]|some x=>.tuple #[.agg (x.cells bs),.bool x.fits,.bool true])
theorem OO(o:dY)(x y:di)(h:x.d=y.d/\x.s=y.s/\x.jump=y.jump/\x.num=y.num/\x.high=y.high):o.needs x=o.needs y:=by
 obtain⟨h1,h2,h3,h4,h5⟩:=h;have hr:PK.right x=PK.right y:=by funext p;unfold PK.right;rw[h1,h2,h5]
 unfold dY.needs fJ;rw[hr,h1,h2,h3,h4]
def vk(o:dY)(x l:tLB)(k:Nat):Option dH :=
 if o.words.contains x then(match o.read (zI x l)with|none=>none|some r=>if ay r.rest=[]then some ⟨k,{r with rest:=[]}⟩else none)else none
theorem CD(x l:tLB)(k:Nat)(hk:k<aq.length):readFrom x l k (aq.drop k)=match vk aq[k] x l k with|some y=>some y|none=>readFrom x l (k+1) (aq.drop (k+1)):=by
 rw[List.drop_eq_getElem_cons hk,readFrom];unfold vk zI;by_cases h1:aq[k].words.contains x=true
 ·rw[iP9 h1,iP9 h1];cases aq[k].read ⟨x,l,0,0,0,0,0,[],[],false⟩with
  |none=>rfl
  |some r =>
   dsimp only;by_cases h2:ay r.rest=[]
   ·rw[iP9 h2,iP9 h2]
   ·rw[iN9 h2,iN9 h2]
 ·rw[iN9 h1,iN9 h1]
structure LM(wT:tW)(b:Nat)(o:dY)(x l:tLB)(va:Option Addr)(vn vc:Nat)(k6:FuncId)(c6:tAV)(k8:FuncId)(c8:tAV):Prop where
 c1:∀w,aa ae wT w->w.cell? ⟨b,1,none⟩=some (.slice va vn vc)
 c6':∀w,aa ae wT w->w.cell? ⟨b,6,none⟩=some (.func (.func k6) #[] c6)
 c8':∀w,aa ae wT w->w.cell? ⟨b,8,none⟩=some (.func (.func k8) #[] c8)
 ct:∀w,aa ae wT w->Calls prog 255 #[.slice va vn vc,.string (T x)] w λe w'=>e=.returned (.bool (o.words.contains x))/\w'=w
 e6:pE k6
 e8:pE k8
 rd:∀w b',aa ae wT w->wT.heap.size<=b'->(∀w'',aa (Only b') w w''->Env w'')->ak w b' ((zI x l).cells (.pointer (some ⟨b,0,none⟩))) 269->l.length<=1000000->Calls prog k6 (#[.pointer (some ⟨b',0,none⟩)]++c6) w λe w''=>bz w b' (.pointer (some ⟨b,0,none⟩)) (o.read (zI x l)) e w''
 nd:∀w (y:di),aa ae wT w->y.Fit->Calls prog k8 (#[.agg y.cells]++c8) w λe w''=>e=.returned (.bool (o.needs y))/\aa ae w w''
theorem bY.does{wT:tW}{b:Nat}{o:dY}(h:bY wT b o)(x l:tLB):∃va vn vc k6 c6 k8 c8,LM wT b o x l va vn vc k6 c6 k8 c8:=by
 obtain⟨o1,n1,c1,f6,c6,k7,c7,k8,c8,f9,c9,hblk,EO⟩:=h.ex;have hw:=Di o;obtain⟨k6,hf6,hen,hrd⟩:=EO.rd.ex;subst hf6
 exact⟨o1,n1,c1,k6,c6,k8,c8,{
  c1:=λw m=>(hblk.ag m id).cell 1
  c6':=λw m=>(hblk.ag m id).cell 6
  c8':=λw m=>(hblk.ag m id).cell 8
  ct:=λw m=>uJ _ x _ w (EO.ws.ag m (λ_ _=>id)) hw.1 (by omega)
  e6:=hen
  e8:=EO.e8
  rd:=λw b' m _ hE hb hl=>hrd w b' _ (zI x l) m.kp hE hb hl
  nd:=λw y m hy=>EO.nd w y m.kp hy}⟩
def bD.pins(op:Value)(r:bD):di:=⟨op,r.d,r.s,r.jump,r.num,r.high,T r.label,T r.name⟩
theorem bD.qz.fit{r:bD}(h:r.qz)(op:Value):(r.pins op).Fit :=
 ⟨h.d,h.s,h.j0,h.j1,h.n0,h.n1,h.h0,h.h1,by show(T r.label).size<=100;rw[bG];exact h.l,by show(T r.name).size<=300;rw[bG];exact h.m⟩
theorem opsRead_any(wT w:tW)(v:Value)(bs:List Nat)(x l:tLB)(hO:aH 0 wT v bs aq)(m:aa ae wT w)(hE:Env w)(hl:l.length<=1000000):Calls prog 143 #[v,.string (T x),.agg #[.string (T l)]] w λe w'=>sZ w bs (j9 x l) e w':=by
 have hO1:=hO.ag m;obtain⟨o,c,rfl,hcell⟩:=GA hO1;have FU:af (∀k (hk:k<aq.length),∃va vn vc k6 c6 k8 c8,LM w (bs[k]?.getD 0) aq[k] x l va vn vc k6 c6 k8 c8):=λk hk=>(SK hO1 k hk).does x l;have HC:=ai hcell;have abS:aq.length=88:=dZ;have HST:af (∀k (hk:k<aq.length),readFrom x l k (aq.drop k)=match vk aq[k] x l k with|some y=>some y|none=>readFrom x l (k+1) (aq.drop (k+1))):=λk hk=>CD x l k hk;have nD:af (readFrom x l aq.length (aq.drop aq.length)=none):=by rw[af,List.drop_length];rfl
 have abT:af (j9 x l=readFrom x l 0 (aq.drop 0)):=rfl;have HOO:af (∀k (hk:k<aq.length),(dH.o ⟨k,zI x l⟩)=aq[k]):=λk hk=>by simp[dH.o,hk]
 have HE:=ai hE;clear hO hO1 m hcell hE;have HPZ:af (∀e w',j9 x l=none->aa ae w w'->e=.returned (.tuple #[.agg wZ,.bool false,.bool false])->sZ w bs (j9 x l) e w'):=λe w' h1 h2 h3=>⟨h2,by rw[h1];exact h3⟩
 have Zx:af (∀e w' y,j9 x l=some y->aa ae w w'->e=.returned (.tuple #[.agg (y.cells bs),.bool y.fits,.bool true])->sZ w bs (j9 x l) e w'):=λe w' y h1 h2 h3=>⟨h2,by rw[h1];exact h3⟩
 generalize sZ w bs (j9 x l)=RP at *;generalize j9 x l=rp at *;have VQ:af (ak ((w.alloc (.cells #[.string (T l)] 229)).alloc (.cells wZ 138)) w.heap.size #[.string (T l)] 229):=(ak.new w _ _).alloc _
 have iA:af (ak ((w.alloc (.cells #[.string (T l)] 229)).alloc (.cells wZ 138)) (w.heap.size+1) wZ 138):=by
  have:=ak.new (w.alloc (.cells #[.string (T l)] 229)) wZ 138
  simpa [af]using this
 have eX:af (aa ae w ((w.alloc (.cells #[.string (T l)] 229)).alloc (.cells wZ 138))):=aj.alloc _;go_enter func143,ntmps143;go_upto_block 0 with fail;unfold wZ at VQ iA eX;generalize(w.alloc (.cells #[.string (T l)] 229)).alloc (.cells #[.pointer none,.int .u8 0,.int .u8 0,.int .i16 0,.int .i32 0,.int .i32 0,.string ⟨#[]⟩,.string ⟨#[]⟩] 138)=w1 at *;obtain⟨F,hF⟩:∃F:Nat->Option dH,∀k,readFrom x l k (aq.drop k)=F k:=⟨_,λ_=>rfl⟩
 have abU:af (∀k (hk:k<aq.length),F k=match vk aq[k] x l k with|some y=>some y|none=>F (k+1)):=λk hk=>by have:=HST.o k hk;rw[hF,hF]at this;exact this
 have Zy:af (F aq.length=none):=by rw[af,<-hF];exact nD.o
 have abV:af (rp=F 0):=by rw[af,<-hF];exact abT.o
 clear hF HST nD abT;have aeW:=ai iA.o.lt;generalize hLb:w.heap.size=Lb at *;generalize hRb:Lb+1=Rb at *;have HLR:af (Lb≠Rb):=by rw[af];omega
 go_wp2_with fail;go_loopg [14] aq.length (λq v wx=>∃k:Nat,k<=aq.length/\v=.int .i64 k/\ak wx Lb #[.string (T l)] 229/\ak wx Rb #[.pointer none,.int .u8 0,.int .u8 0,.int .i16 0,.int .i32 0,.int .i32 0,.string ⟨#[]⟩,.string ⟨#[]⟩] 138/\aa ae w wx/\rp=F k/\q=aq.length-k)
 case atStart=>exact⟨0,ab _,rfl,VQ.o,iA.o,eX.o,abV.o,rfl⟩
 case round =>
  obtain⟨k,hk,rfl,hlb,hrb,hmk,LF,rfl⟩:=hrel;have HLk:=ai hlb;have tZ:=ai hrb;have uV:=ai hmk;have HFk:=ai LF;clear hlb hrb hmk LF VQ iA eX abV;by_cases hlt:k<aq.length
  ·obtain⟨va,vn,vc,k6,c6,k8,c8,HD⟩:=FU.o k hlt;have HT:=ai (abU.o k hlt);have Cu:af (∀r,dH.o ⟨k,r⟩=aq[k]):=λr=>by simp[dH.o,hlt]
   obtain⟨g,rfl,hg⟩:=HC.o k hlt;have q0:=hg wr uV.o;have q1:=HD.c1 wr uV.o;have OP:=ai HD;have Zw:af (Calls prog 255 #[.slice va vn vc,.string (T x)] wr λe w'=>e=.returned (.bool (aq[k].words.contains x))/\w'=wr):=HD.ct wr uV.o;clear HD hg HC FU abU Zy HOO;generalize aq[k]=ok at *;generalize hbk:bs[k]?.getD 0=bk at *;cases hc:ok.words.contains x with
   |false =>
    have HN:af (rp=F (k+1)):=by rw[af,HFk.o,HT.o,vk,hc]<;>rfl
    go_wp2_with fail;refine Zw.o.mono ?_;rintro e w2 ⟨rfl,rfl⟩;rw[hc];go_wp2_with fail;go_roundg (aq.length-(k+1))
    case measure=>omega
    case rel=>exact⟨k+1,by omega,by go_num,HLk.o,tZ.o,uV.o,HN.o,rfl⟩
   |true =>
    have Xa:af (vk ok x l k=match ok.read (zI x l)with|none=>none|some r=>if ay r.rest=[]then some ⟨k,{r with rest:=[]}⟩else none):=by rw[af,vk,iP9 hc]<;>rfl
    have y0:wr.cell? ⟨Lb,0,none⟩=some (.string (T l)):=HLk.o.cell 0;have q6:∀cs t,(wr.alloc (.cells cs t)).cell? ⟨bk,6,none⟩=some (.func (.func k6) #[] c6):=λcs t=>OP.o.c6' _ (uV.o.alloc _);have hen:=OP.o.e6;unfold pE at hen;go_wp2_with fail;refine Zw.o.mono ?_;rintro e w2 ⟨rfl,rfl⟩;rw[hc];go_wp2_with fail;have HB3:af (ak (w2.alloc (.cells ((zI x l).cells (.pointer (some ⟨bk,0,none⟩))) 269)) w2.heap.size ((zI x l).cells (.pointer (some ⟨bk,0,none⟩))) 269):=ak.new _ _ _;have dw:af (∀cs t,aa ae w (w2.alloc (.cells cs t))):=λcs t=>uV.o.alloc _;have SX:af (∀cs t,ak (w2.alloc (.cells cs t)) Lb #[.string (T l)] 229):=λcs t=>HLk.o.alloc _;have xX:af (∀cs t,ak (w2.alloc (.cells cs t)) Rb #[.pointer none,.int .u8 0,.int .u8 0,.int .i16 0,.int .i32 0,.int .i32 0,.string ⟨#[]⟩,.string ⟨#[]⟩] 138):=λcs t=>tZ.o.alloc _;have hLl:Lb<w2.heap.size:=HLk.o.lt;have hRl:Rb<w2.heap.size:=tZ.o.lt;have hws:w.heap.size<=w2.heap.size:=uV.o.size;refine(OP.o.rd _ w2.heap.size (dw.o _ _) hws (λw'' m=>HE.o.ag ((dw.o _ _).step m (λi hi e=>by have:i=w2.heap.size:=e;omega))) HB3.o hl).mono ?_;intro e w3 hpo;obtain⟨rfl,uy,hat⟩:=hpo;generalize hBB:w2.heap.size=B at *;have fU:af (aa ae w w3):=(dw.o _ _).step uy (λi hi e=>by have:i=B:=e;omega);have Gy:af (ak w3 Lb #[.string (T l)] 229):=(SX.o _ _).ag uy (λe=>by have:Lb=B:=e;omega);have wm:af (ak w3 Rb #[.pointer none,.int .u8 0,.int .u8 0,.int .i16 0,.int .i32 0,.int .i32 0,.string ⟨#[]⟩,.string ⟨#[]⟩] 138):=(xX.o _ _).ag uy (λe=>by have:Rb=B:=e;omega);have HAT:=ai hat;clear uy hat HB3 dw SX xX Zw y0 q6 hen q0 q1 HLk tZ uV;cases hx:ok.read (zI x l)with
    |none =>
     have HN:af (rp=F (k+1)):=by rw[af,HFk.o,HT.o,Xa.o,hx]
     go_wp2_with fail;go_roundg (aq.length-(k+1))
     case measure=>omega
     case rel=>exact⟨k+1,by omega,by go_num,Gy.o,wm.o,fU.o,HN.o,rfl⟩
    |some r1 =>
     have hb1:=HAT.o r1 hx;have HF1:af r1.qz:=OM ok _ r1 hx (SV x l);have J4:af (Calls prog 136 #[.pointer (some ⟨B,1,none⟩)] w3 λe w'=>e=.returned (.bool (decide (ay r1.rest=[])))/\aQ w3 B 1 (r1.cells (.pointer (some ⟨bk,0,none⟩))) 269 (ay r1.rest) w'):=nZ B 1 _ _ r1.rest w3 (kM hb1);clear hb1 HAT;by_cases hd:ay r1.rest=[]
     ·have HN:af (rp=some ⟨k,{r1 with rest:=[]}⟩):=by rw[af,HFk.o,HT.o,Xa.o,hx];dsimp only;rw[iP9 hd]
      have HFI:af ((dH.mk k {r1 with rest:=[]}).fits=(!r1.far&&ok.needs (r1.pins (.pointer (some ⟨bk,0,none⟩))))):=by unfold dH.fits;rw[Cu.o];exact congrArg _ (OO ok _ _ ⟨rfl,rfl,rfl,rfl,rfl⟩)
      have HYC:af ((dH.mk k {r1 with rest:=[]}).cells bs=(r1.pins (.pointer (some ⟨bk,0,none⟩))).cells):=by unfold dH.cells;dsimp only;rw[hbk];rfl
      rw[hd]at J4;go_wp2_with fail;refine J4.o.mono ?_;rintro e w4 ⟨rfl,CE⟩;have gq:=ai CE.rd;have iC:af (aa ae w w4):=fU.o.step CE.2 (λi hi e=>by have:i=B:=e;omega);have Rj:af (ak w4 Rb #[.pointer none,.int .u8 0,.int .u8 0,.int .i16 0,.int .i32 0,.int .i32 0,.string ⟨#[]⟩,.string ⟨#[]⟩] 138):=wm.o.ag CE.2 (λe=>by have:Rb=B:=e;omega);clear CE J4 fU Gy wm;have Xc:¬Only Rb B:=λe=>by have:B=Rb:=e;omega
      have HMg:af (∀g:Ext (Only Rb) w4,aa ae w g.w):=λg=>iC.o.step g.m (λi hi e=>by have:i=Rb:=e;omega);have e2:∀g:Ext (Only Rb) w4,g.w.cell? ⟨B,2,none⟩=some (.pointer (some ⟨bk,0,none⟩)):=λg=>g.cell gq.o Xc 2;have e3:∀g:Ext (Only Rb) w4,g.w.cell? ⟨B,3,none⟩=some (.int .u8 r1.d):=λg=>g.cell gq.o Xc 3;have e4:∀g:Ext (Only Rb) w4,g.w.cell? ⟨B,4,none⟩=some (.int .u8 r1.s):=λg=>g.cell gq.o Xc 4;have e5:∀g:Ext (Only Rb) w4,g.w.cell? ⟨B,5,none⟩=some (.int .i16 r1.jump):=λg=>g.cell gq.o Xc 5;have e6:∀g:Ext (Only Rb) w4,g.w.cell? ⟨B,6,none⟩=some (.int .i32 r1.num):=λg=>g.cell gq.o Xc 6;have e7:∀g:Ext (Only Rb) w4,g.w.cell? ⟨B,7,none⟩=some (.int .i32 r1.high):=λg=>g.cell gq.o Xc 7;have e8:∀g:Ext (Only Rb) w4,g.w.cell? ⟨B,8,none⟩=some (.string (T r1.label)):=λg=>g.cell gq.o Xc 8;have e9:∀g:Ext (Only Rb) w4,g.w.cell? ⟨B,9,none⟩=some (.string (T r1.name)):=λg=>g.cell gq.o Xc 9;have e10:∀g:Ext (Only Rb) w4,g.w.cell? ⟨B,10,none⟩=some (.bool r1.far):=λg=>g.cell gq.o Xc 10;have c8e:∀g:Ext (Only Rb) w4,g.w.cell? ⟨bk,8,none⟩=some (.func (.func k8) #[] c8):=λg=>OP.o.c8' g.w (HMg.o g);have ne1:=Ext.ne (Only Rb) w4;have adY:=OP.o.e8;unfold pE at adY;have HND:af (∀g:Ext (Only Rb) w4,Calls prog k8 (#[.agg #[.pointer (some ⟨bk,0,none⟩),.int .u8 r1.d,.int .u8 r1.s,.int .i16 r1.jump,.int .i32 r1.num,.int .i32 r1.high,.string (T r1.label),.string (T r1.name)]]++c8) g.w λe w''=>e=.returned (.bool (ok.needs (r1.pins (.pointer (some ⟨bk,0,none⟩)))))/\aa ae g.w w''):=λg=>OP.o.nd g.w (r1.pins (.pointer (some ⟨bk,0,none⟩))) (HMg.o g) (HF1.o.fit _);have abW:af (∀w' fi,aa ae w w'->(!r1.far&&ok.needs (r1.pins (.pointer (some ⟨bk,0,none⟩))))=fi->RP (.returned (.tuple #[.agg #[.pointer (some ⟨bk,0,none⟩),.int .u8 r1.d,.int .u8 r1.s,.int .i16 r1.jump,.int .i32 r1.num,.int .i32 r1.high,.string (T r1.label),.string (T r1.name)],.bool fi,.bool true])) w'):=λw' fi hm hfi=>by refine Zx.o _ w' _ HN.o hm ?_;rw[HFI.o,hfi,HYC.o];rfl
      clear gq HMg OP Zx HFI HYC HPZ HT Xa Cu HN HFk;generalize ok.needs (r1.pins (.pointer (some ⟨bk,0,none⟩)))=nq at *;go_upto_region 7 with fail;generalize r1.far=fr at *;cases fr with
      |false =>
       refine bE [12,14] (λw'=>∃e:Ext (Only Rb) w4,w'=e.w) (by kernel_rfl) (by kernel_rfl) (by kernel_rfl) ⟨⟨_,aJ⟩,rfl⟩ ?_
       iterate 6 (refine aA rfl rfl rfl ?_;intro K hK;go_big_quiet_op;go_big_quiet_on)
       refine nR rfl rfl rfl ?_;intro K hK;go_big_quiet_op;go_big_quiet_on;refine ny rfl rfl _ ⟨bk,0,none⟩ rfl rfl ?_;simp only[Act.put,sA9,sB9,sC9]
       iterate 4 (refine nR rfl rfl rfl ?_;intro K hK;go_big_quiet_op;go_big_quiet_on)
       refine zY rfl rfl ?_;intro K hK;go_big_op;refine(HND.o ⟨w4.drew,aJ⟩).mono ?_;rintro e w5 ⟨rfl,m5⟩;have sW:af (aa ae w w5):=(iC.o.drew).trans m5;have Jq:af (ak w5 Rb #[.pointer none,.int .u8 0,.int .u8 0,.int .i16 0,.int .i32 0,.int .i32 0,.string ⟨#[]⟩,.string ⟨#[]⟩] 138):=(Rj.o.drew).ag m5 id;have X5:af (aa (Only Rb) w4 w5):=aJ.trans m5.of_nil;refine hK _ _ rfl ⟨⟨_,X5.o⟩,rfl⟩ ?_;clear hK K m5 iC Rj HND
       try simp only[Act.put,sA9,sB9,sC9]
       refine wE rfl rfl _ _ _ _ rfl rfl ?_;simp only[Act.put,Act.eval,sA9,sB9,sC9];obtain⟨r0,r1',r2,r3,r4,r5,r6,r7⟩:=Jq.o.iV;have rf:=Jq.o.frozen;refine aF rfl rfl ?_;intro K hK;go_big_op;refine hK _ _ rfl ⟨⟨_,aa.rH X5.o (.inl rfl) _ _ _ _ _ _ _ _⟩,rfl⟩ ?_;clear hK K r0 r1' r2 r3 r4 r5 r6 r7 rf
       try simp only[Act.put,sA9,sB9,sC9]
       iterate 2 (refine aA rfl rfl rfl ?_;intro K hK;go_big_quiet_op;go_big_quiet_on)
       refine bX ?_
       try simp only[Exit.then]
       go_wp2_with fail;refine bodyPost_ret (jw results143 _ _ Rb 138 _ (0,0) _ _ _ rfl rfl rfl (ak.rH Jq.o _ _ _ _ _ _ _ _) underlying138 rfl (by kernel_rfl)) rfl ?_;exact abW.o _ _ (aa.rH sW.o (.inr (by omega)) _ _ _ _ _ _ _ _) (by simp)
      |true =>
       have sW:=ai iC.o.drew;have Jq:=ai Rj.o.drew;have X5:af (aa (Only Rb) w4 w4.drew):=aJ;clear iC Rj HND;refine bE [12,14] (λw'=>∃e:Ext (Only Rb) w4,w'=e.w) (by kernel_rfl) (by kernel_rfl) (by kernel_rfl) ⟨⟨_,aJ⟩,rfl⟩ ?_
       change wpMix _ _ _ _ _ _ _ _ w4.drew
       generalize w4.drew=W at *
       iterate 6 (refine aA rfl rfl rfl ?_;intro K hK;go_big_quiet_op;go_big_quiet_on)
       iterate 7 (refine F7 rfl ?_;simp only[Act.put,sA9,sB9,sC9])
       refine wE rfl rfl _ _ _ _ rfl rfl ?_;simp only[Act.put,Act.eval,sA9,sB9,sC9];obtain⟨r0,r1',r2,r3,r4,r5,r6,r7⟩:=Jq.o.iV;have rf:=Jq.o.frozen;refine aF rfl rfl ?_;intro K hK;go_big_op;refine hK _ _ rfl ⟨⟨_,aa.rH X5.o (.inl rfl) _ _ _ _ _ _ _ _⟩,rfl⟩ ?_;clear hK K r0 r1' r2 r3 r4 r5 r6 r7 rf
       try simp only[Act.put,sA9,sB9,sC9]
       iterate 2 (refine aA rfl rfl rfl ?_;intro K hK;go_big_quiet_op;go_big_quiet_on)
       refine bX ?_
       try simp only[Exit.then]
       go_wp2_with fail;refine bodyPost_ret (jw results143 _ _ Rb 138 _ (0,0) _ _ _ rfl rfl rfl (ak.rH Jq.o _ _ _ _ _ _ _ _) underlying138 rfl (by kernel_rfl)) rfl ?_;exact abW.o _ _ (aa.rH sW.o (.inr (by omega)) _ _ _ _ _ _ _ _) (by simp)
     ·have HN:af (rp=F (k+1)):=by rw[af,HFk.o,HT.o,Xa.o,hx];dsimp only;rw[iN9 hd]
      have hd':decide (ay r1.rest=[])=false:=by simpa using hd
      rw[hd']at J4;go_wp2_with fail;refine J4.o.mono ?_;rintro e w4 ⟨rfl,CE⟩;have iC:af (aa ae w w4):=fU.o.step CE.2 (λi hi e=>by have:i=B:=e;omega);have HL5:af (ak w4 Lb #[.string (T l)] 229):=Gy.o.ag CE.2 (λe=>by have:Lb=B:=e;omega);have Rj:af (ak w4 Rb #[.pointer none,.int .u8 0,.int .u8 0,.int .i16 0,.int .i32 0,.int .i32 0,.string ⟨#[]⟩,.string ⟨#[]⟩] 138):=wm.o.ag CE.2 (λe=>by have:Rb=B:=e;omega);clear CE J4 fU Gy wm;go_wp2_with fail;go_roundg (aq.length-(k+1))
      case measure=>omega
      case rel=>exact⟨k+1,by omega,by go_num,HL5.o,Rj.o,iC.o,HN.o,rfl⟩
  ·have hke:k=aq.length:=by omega
   have HN:af (rp=none):=by rw[af,HFk.o,hke];exact Zy.o
   have r0:=tZ.o.iV;obtain⟨r0,r1,r2,r3,r4,r5,r6,r7⟩:=r0;have rf:=tZ.o.frozen;go_wp2_with fail;refine bodyPost_ret (jw results143 _ _ Rb 138 _ (0,0) _ _ _ rfl rfl rfl (ak.rH tZ.o _ _ _ _ _ _ _ _) underlying138 rfl (by kernel_rfl)) rfl ?_;exact HPZ.o _ _ HN.o (aa.rH uV.o (.inr (by omega)) _ _ _ _ _ _ _ _) rfl
theorem Xd(wT w:tW)(v:Value)(bs:List Nat)(x:tLB)(hO:aH 0 wT v bs aq)(m:aa ae wT w)(hE:Env w)(hx:x.length<=1000000):Calls prog 140 #[v,.string (T x)] w λe w'=>e=.returned (.bool (gp x))/\aa ae w w':=by
 have HR:af (Calls prog 253 #[.string (T x)] w λe w'=>e=.returned (.bool (aZ x).isSome)/\aa ae w w'):=Nr x w hE hx;have HB:af (∀w',aa ae w w'->Calls prog 254 #[v,.string (T x)] w' λe w''=>e=.returned (.bool (jW x))/\w''=w'):=λw' m'=>J3 wT w' v bs x hO (m.trans m');have HX:af (gp x=(x==[109,97,112]||x==[102,117,110,99]||(aZ x).isSome||jW x)):=rfl;obtain⟨o,c,rfl,_⟩:=hO.sl.view;generalize gp x=rx at *;generalize(aZ x).isSome=rr at *;generalize jW x=bb at *;by_cases h1:x=[109,97,112]
 ·have hq:((T x).toList==[109,97,112])=true:=yn (by rw[h1]);have xc:af (rx=true):=by rw[af,HX.o,h1];rfl
  clear h1;go_enter func140,ntmps140;go_wp2_with fail;go_ret;rw[xc.o];exact⟨rfl,ax⟩
 ·have hq:((T x).toList==[109,97,112])=false:=rD (λe=>h1 (nz e));have hb1:(x==[109,97,112])=false:=by simpa using h1
  by_cases h2:x=[102,117,110,99]
  ·have hq2:((T x).toList==[102,117,110,99])=true:=yn (by rw[h2]);have xc:af (rx=true):=by rw[af,HX.o,h2];rfl
   clear h1 h2 hb1;go_enter func140,ntmps140;go_wp2_with fail;go_ret;rw[xc.o];exact⟨rfl,ax⟩
  ·have hq2:((T x).toList==[102,117,110,99])=false:=rD (λe=>h2 (nz e));have hb2:(x==[102,117,110,99])=false:=by simpa using h2
   have xc:af (rx=(rr||bb)):=by rw[af,HX.o,hb1,hb2];rfl
   clear HX hb1 hb2 h1 h2;cases rr with
   |true =>go_enter func140,ntmps140;go_wp2_with fail;refine HR.o.mono ?_;rintro e w1 ⟨rfl,m1⟩;go_wp2_with fail;go_ret;rw[xc.o];exact⟨rfl,m1⟩
   |false =>go_enter func140,ntmps140;go_wp2_with fail;refine HR.o.mono ?_;rintro e w1 ⟨rfl,m1⟩;go_wp2_with fail;refine(HB.o _ m1).mono ?_;rintro e w2 ⟨rfl,rfl⟩;go_wp2_with fail;go_ret;rw[xc.o];exact⟨rfl,m1⟩
def mE(w:tW):Prop:=∃m,w.cell? ⟨1,0,none⟩=some (.int .i64 m)
theorem cell_kept{w w':tW}(m:aa ae w w'){b i:Nat}{v:Value}(h:w.cell? ⟨b,i,none⟩=some v):w'.cell? ⟨b,i,none⟩=some v:=by
 unfold World.cell? at *;by_cases hb:b<w.heap.size
 ·simp only at *;rw[m.block b hb id];exact h
 ·simp only at h;rw[Array.getElem?_eq_none (by omega)]at h;cases h
theorem mE.ag{w w':tW}(h:mE w)(m:aa ae w w'):mE w':=by obtain⟨x,hx⟩:=h;exact⟨x,cell_kept m hx⟩
theorem uK(p:UInt8->Bool):∀l:tLB,(∀d∈l,p d=true)->l.takeWhile p=l
 |[],_=>rfl
 |c::l,h=>by rw[aE,iP9 (h c (by simp)),uK p l (λd hd=>h d (by simp[hd]))]
theorem index_one(l:tLB)(c:UInt8):(Lib.index l [c]=-1/\∀d∈l,d≠c)\/(∃k:Nat,Lib.index l [c]=k/\l.takeWhile (λd=>d != c)=l.take k/\k<l.length):=by
 induction l with
 |nil=>left;exact⟨rfl,by simp⟩
 |cons b l ih =>
  rw[Lib.index];by_cases h:b=c
  ·right;subst h;refine⟨0,?_,by simp[aE],by simp⟩;rw[iP9 (by simp[bj])];rfl
  ·have hp:bj [c] (b::l)=false:=by simp only[bj,Bool.and_true,beq_eq_false_iff_ne];exact λe=>h e.symm
   rw[iN9 (by simp[hp])];rcases ih with⟨h1,h2⟩ |⟨k,h1,h2,h3⟩
   ·left;refine⟨by rw[h1];rfl,?_⟩;intro d hd;rcases List.mem_cons.1 hd with rfl|hd
    ·exact h
    ·exact h2 d hd
   ·right;refine⟨k+1,?_,?_,by simpa using h3⟩
    ·rw[h1,iN9 (by simp)];rfl
    ·rw[aE,iP9 (by simpa using h),h2];rfl
theorem SY(l:tLB)(c:UInt8):(Lib.cut l [c]).1=l.takeWhile (λd=>d != c):=by
 unfold Lib.cut;rcases index_one l c with⟨h1,h2⟩ |⟨k,h1,h2,h3⟩
 ·rw[h1,iN9 (by decide)];show l=_
  symm
  exact uK _ l (λd hd=>by simpa using h2 d hd)
 ·rw[h1,iP9 (by omega),h2];simp
theorem S9(l:tLB)(w:tW)(hM:mE w)(hl:l.length<=1000000):Calls prog 249 #[.string (T l),.string ⟨#[59]⟩] w λe w'=>(∃a b,e=.returned (.tuple #[.string (T (l.takeWhile (λd=>d != 59))),.string a,.bool b]))/\aa ae w w':=by
 obtain⟨m,hm⟩:=hM;have h:=Any.strings_Cut lcu (T l) ⟨#[59]⟩ m w (by rw[bG];omega) hm;have e:∀l,(T l).data.toList=l:=λl=>by simp[T]
 rw[e,SY]at h;exact h.mono (λ_ _ ⟨he,n,hw⟩=>⟨⟨_,_,he⟩,by rw[hw];exact ax.drewN n⟩)
def lW(c:UInt8):Bool:=decide (32<=(c.toNat:Int))&&decide ((c.toNat:Int)<=126)
theorem Xe{l:tLB}(h:∀d∈l,lW d=true):jE l=some (l.takeWhile (λc=>c != 59)):=by unfold jE;exact iP9 (List.all_eq_true.2 h)
theorem Xf{l:tLB}{k:Nat}(hk:k<l.length)(h:lW l[k]=false):jE l=none:=by unfold jE;rw[iN9];intro e;have:=List.all_eq_true.1 e l[k] (an hk);have h2:lW l[k]=true:=this;rw[h]at h2;cases h2
theorem EP(t:tLB)(w:tW)(hM:mE w)(hl:t.length<=1000000):Calls prog 135 #[.string (T t)] w λe w'=>e=.returned (.tuple #[.agg #[.string (T ((jE t).getD []))],.bool (jE t).isSome])/\aa ae w w':=by
 have VV:af (∀k (hk:k<t.length),lW t[k]=false->jE t=none):=λk hk h=>Xf hk h;have uH:af ((∀d∈t,lW d=true)->jE t=some (t.takeWhile (λc=>c != 59))):=Xe;have HCU:af (∀w',mE w'->Calls prog 249 #[.string (T t),.string ⟨#[59]⟩] w' λe w''=>(∃a b,e=.returned (.tuple #[.string (T (t.takeWhile (λd=>d != 59))),.string a,.bool b]))/\aa ae w' w''):=λw' h=>S9 t w' h hl;have HM:=ai hM;clear hM;generalize jE t=nl at *;generalize t.takeWhile (λc=>c != 59)=tw at *;have hs:(T t).size=t.length:=bG t;have iA:af (ak (w.alloc (.cells #[.string ⟨#[]⟩] 229)) w.heap.size #[.string ⟨#[]⟩] 229):=ak.new w _ _;have eX:af (aa ae w (w.alloc (.cells #[.string ⟨#[]⟩] 229))):=aj;go_enter func135,ntmps135;go_wp2_with fail;go_loop [10] (λv=>∃k:Nat,k<=t.length/\v=.int .i64 k/\∀j (hj:j<k) (h:j<t.length),lW t[j]=true) (λv=>t.length-(intOf v).toNat)
 case atStart=>exact⟨0,ab _,rfl,λj hj=>absurd hj (Nat.not_lt_zero _)⟩
 case round =>
  obtain⟨k,hk,rfl,hj⟩:=hrel;have HJ:=ai hj;clear hj;by_cases hlt:k<t.length
  ·have hg:(T t)[k]'(by rw[hs];exact hlt)=t[k]:=rfl;have hb:=(t[k]).toNat_lt;have Rk:af (lW t[k]=(decide (32<=((t[k]).toNat:Int))&&decide (((t[k]).toNat:Int)<=126))):=rfl;have HN:=ai (VV.o k hlt)
   have FW:af (lW t[k]=true->∀j (hj:j<k+1) (h:j<t.length),lW t[j]=true):=λhc j hj h=>by
    rcases Nat.lt_or_ge j k with e|e
    ·exact HJ.o j e h
    ·have:j=k:=by omega
     subst this;exact hc
   generalize yD:lW t[k]=bo at *;by_cases h1:(t[k]).toNat<32
   ·have h1':((t[k]).toNat:Int)<32:=by omega
    have HX:af (nl=none):=HN.o (by rw[Rk.o,decide_eq_false (by omega)];rfl);clear HN FW Rk;go_wp2_with fail;refine bodyPost_ret (aw results135 _ _ w.heap.size 229 _ (0,0) _ _ rfl rfl iA.o underlying229 rfl (by kernel_rfl)) rfl ⟨?_,eX.o⟩;rw[HX.o];rfl
   ·have h1':decide (((t[k]).toNat:Int)<32)=false:=by simp;omega
    by_cases h2:126<(t[k]).toNat
    ·have h2':(126:Int)<((t[k]).toNat:Int):=by omega
     have HX:af (nl=none):=HN.o (by rw[Rk.o,decide_eq_false (show ¬((t[k]).toNat:Int)<=126 by omega),Bool.and_false]);clear HN FW Rk;go_wp2_with fail;refine bodyPost_ret (aw results135 _ _ w.heap.size 229 _ (0,0) _ _ rfl rfl iA.o underlying229 rfl (by kernel_rfl)) rfl ⟨?_,eX.o⟩;rw[HX.o];rfl
    ·have h2':decide ((126:Int)<((t[k]).toNat:Int))=false:=by simp;omega
     have HJ3:af (∀j (hj:j<k+1) (h:j<t.length),lW t[j]=true):=FW.o (by rw[Rk.o,decide_eq_true (by omega),decide_eq_true (by omega)];rfl);clear HN FW Rk;go_wp2_with fail;go_round
     case rel=>exact⟨k+1,by omega,by go_num,HJ3.o⟩
     case measure=>simp[intOf];omega
  ·have HX:af (nl=some tw):=uH.o (λd hd=>by obtain⟨j,hj,rfl⟩:=bq hd;exact HJ.o j (by omega) hj);go_wp2_with fail;refine(HCU.o _ (HM.o.ag eX.o)).mono ?_;rintro e w1 ⟨⟨sa,sb,rfl⟩,m1⟩;have Cs:=ai (iA.o.ag m1 id);have dh:=ai (eX.o.trans m1);have z0:w1.cell? ⟨w.heap.size,0,none⟩=some (.string ⟨#[]⟩):=Cs.o.cell 0;have zf:=Cs.o.frozen;clear m1 iA eX;go_wp2_with fail;refine bodyPost_ret (aw results135 _ _ w.heap.size 229 _ (0,0) _ _ rfl rfl (Cs.o.set 0 _) underlying229 rfl (by kernel_rfl)) rfl ⟨?_,dh.o.set (.inr (bO _)) _⟩;rw[HX.o];rfl
def aT:bC:=⟨0,false⟩
def OQ(k:Nat)(nm:tBA)(a b c:bC)(op:Value)(d s:Nat)(j n h:Int)(lb nn:tBA)(f:Bool):tAV :=
 #[.int .i64 k,.string nm,.bool a.minus,.int .u64 ((a.v%18446744073709551616:Nat):Int),.bool (decide (18446744073709551616<=a.v)),.bool b.minus,.int .u64 ((b.v%18446744073709551616:Nat):Int),.bool (decide (18446744073709551616<=b.v)),
  .bool c.minus,.int .u64 ((c.v%18446744073709551616:Nat):Int),.bool (decide (18446744073709551616<=c.v)),op,.int .u8 d,.int .u8 s,.int .i16 j,.int .i32 n,.int .i32 h,.string lb,.string nn,.bool f]
theorem jY(k:Nat)(nm:tBA)(a b c:bC)(op:Option Addr)(d s:Nat)(j n h:Int)(lb nn:tBA)(f:Bool):(OQ k nm a b c (.pointer op) d s j n h lb nn f).all (·.oneCell')=true:=by simp[OQ,Value.oneCell']
def xg(k:Nat)(nm:tBA)(a b c:bC):tAV:=OQ k nm a b c (.pointer none) 0 0 0 0 0 ⟨#[]⟩ ⟨#[]⟩ false
def dN.cells(bs:List Nat)(x:dN):tAV :=
 if x.kind=4 then OQ 4 ⟨#[]⟩ aT aT aT (.pointer (some ⟨bs[x.x.k]?.getD 0,0,none⟩)) x.x.r.d x.x.r.s x.x.r.jump x.x.r.num x.x.r.high (T x.x.r.label) (T x.x.r.name) x.x.fits
 else xg x.kind (T x.name) (x.ns.getD 0 aT) (x.ns.getD 1 aT) (x.ns.getD 2 aT)
def bK(w:tW)(bs:List Nat)(o:Option dN)(e:Ending)(w':tW):Prop :=
 aa ae w w'/\match o with
  |some x=>e=.returned (.tuple #[.agg (x.cells bs),.bool true])
  |none=>∃k nm a b c op d s j n h lb nn f,e=.returned (.tuple #[.agg (OQ k nm a b c (.pointer op) d s j n h lb nn f),.bool false])
