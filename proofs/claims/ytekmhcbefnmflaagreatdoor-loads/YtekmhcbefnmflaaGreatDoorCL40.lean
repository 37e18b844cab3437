import Derived.Test.YtekmhcbefnmflaaGreatDoorCL56
import Derived.Test.YtekmhcbefnmflaaGreatDoorCL13
namespace Go.Proofs.YtekmhcbefnmflaaGreatDoor
open Go.RowKit Tryz
open Int renaming le_refl->ab,toNat_natCast->an
open Nat renaming le_refl->ao,lt_of_lt_of_le->ar
open Bool renaming false->eE,true->eJ
open Decidable renaming decide->eS
open Ending renaming returned->fR
open List renaming length->ee
open Option renaming some->eC,none->ez
open Value renaming bool->fS,slice->eK,string->eI,tuple->gb
set_option linter.all false
set_option maxRecDepth 100000
set_option maxHeartbeats 1000000
set_option linter.all false
def jq(mN fN:List tBA)(o:ep):Option aK :=
 if o.jump=1/\(o.i.word=WIDE\/o.i.word=CALL)then((if o.i.word=WIDE then mN else fN)[o.num.toNat]?).map (λnm=>{o.i with s:=0,name:=nm})else eC o.i
theorem xZ{mN fN:List tBA}{o:ep}{i:aK}(h:jq mN fN o=eC i):i.word=o.i.word:=by
 unfold jq at h;split at h
 ·obtain⟨nm,_,rfl⟩:=Option.map_eq_some_iff.1 h;rfl
 ·cases h;rfl
def bodyLJ(mN fN:List tBA)(s:tBA)(slots:Nat):Nat->RS->Nat->List aK->List Int->List Int->Option YE
 |0,_,_,_,_,_=>ez
 |f+1,r,p,ls,ats,js =>
  if p<slots then
   (if(bu s r).ok=eE\/(bu s r).r.bad=eJ then ez
   else match jq mN fN (bu s r)with
    |none=>ez
    |some i=>bodyLJ mN fN s slots f (bu s r).r (p+dH i.word) (ls++[i]) (ats++[(p:Int)]) (js++[(bu s r).jump]))
  else eC ⟨ls,ats,js,r,p⟩
structure Kx(slots:Nat)(ls:List aK)(ats js:List Int):Prop where
 f:∀i∈ls,i.word.size<=100
 a:∀x∈ats,0<=x/\x<=slots
 j:∀x∈js,-32768<=x/\x<=32767
 al:ee ats=ee ls
 jl:ee js=ee ls
theorem Bn(mN fN:List tBA)(s:tBA)(slots:Nat):∀(f:Nat) (r:RS) (p:Nat) (ls:List aK) (ats js:List Int) (b:YE),bodyLJ mN fN s slots f r p ls ats js=eC b->Kx slots ls ats js->Kx slots b.ls b.ats b.js
 |0,_,_,_,_,_,_,h,_=>by cases h
 |f+1,r,p,ls,ats,js,b,h,g=>by
  rw[bodyLJ]at h;split at h
  ·rename_i hp
   split at h
   ·cases h
   ·rename_i hok
    split at h
    ·cases h
    ·rename_i i hi
     have hf:=YH s r (by cases e:(bu s r).ok with
      |true=>rfl
      |false=>exact absurd (.inl e) hok)
     refine Bn mN fN s slots f _ _ _ _ _ b h ⟨?_,?_,?_,by simp[g.al],by simp[g.jl]⟩
     ·intro x hx;rcases List.mem_append.1 hx with hx|hx
      ·exact g.f x hx
      ·rw[List.mem_singleton.1 hx,xZ hi];exact hf.1.word
     ·intro x hx;rcases List.mem_append.1 hx with hx|hx
      ·exact g.a x hx
      ·rw[List.mem_singleton.1 hx];omega
     ·intro x hx;rcases List.mem_append.1 hx with hx|hx
      ·exact g.j x hx
      ·rw[List.mem_singleton.1 hx];exact hf.2
  ·cases h;exact g
theorem SQ(slots:Nat):Kx slots [] [] []:=⟨λ_ h=>(by cases h),λ_ h=>(by cases h),λ_ h=>(by cases h),rfl,rfl⟩
def bodyMJ(mN fN:List tBA)(s:tBA)(slots:Nat)(r:RS):Option RS :=
 match bodyLJ mN fN s slots (slots+1) r 0 [] [] []with
 |none=>ez
 |some b=>if b.pos≠slots\/pX b.ls=eE then ez else(labG b.ats [] (nz b.ls b.ats b.js) []).map (λ_=>b.r)
def iG(mN fN:List tBA)(w:tW)(fb rb off:Nat)(cs:tAV)(s:tBA)(slots:Nat)(r:RS)(e:Ending)(w':tW):Prop :=
 e=fR (fS (bodyMJ mN fN s slots r).isSome)/\aa (λk=>k=fb\/k=rb) w w'/\∀o,bodyMJ mN fN s slots r=eC o->bH w' rb s o/\∃vL vA vB vP,ak w' fb ((((cs.setIfInBounds (off+1) vL).setIfInBounds (off+2) vA).setIfInBounds (off+4) vB).setIfInBounds (off+5) vP) 43
theorem iG.no{mN fN:List tBA}{w w':tW}{fb rb off:Nat}{cs:tAV}{s:tBA}{slots:Nat}{r:RS}(h:bodyMJ mN fN s slots r=ez)(m:aa (λk=>k=fb\/k=rb) w w'):iG mN fN w fb rb off cs s slots r (fR (fS eE)) w':=⟨by rw[h];rfl,m,λo ho=>by rw[h]at ho;cases ho⟩
theorem o8{mN fN:List tBA}{s:tBA}{slots:Nat}{r:RS}(h:bodyLJ mN fN s slots (slots+1) r 0 [] [] []=ez):bodyMJ mN fN s slots r=ez:=by rw[bodyMJ,h]
theorem Ky{mN fN:List tBA}{s:tBA}{slots:Nat}{r:RS}{b:YE}(h:bodyLJ mN fN s slots (slots+1) r 0 [] [] []=eC b)(hp:b.pos=slots)(he:pX b.ls=eJ):bodyMJ mN fN s slots r=(labG b.ats [] (nz b.ls b.ats b.js) []).map (λ_=>b.r):=by rw[bodyMJ,h];dsimp only;rw[iN9 (by rw[hp,he];simp)]
section
variable {w0 w w' : World} {fb rb off : Nat} {cs : Array Value} {s : ByteArray} {r : RS} {ls ls' : List aK} {ats js : List Int} {vL vA vJ : Value} {slots : Nat} {lab : PL}
theorem jB.afG(h:jB w0 fb rb off cs s r ls ats js vL vA vJ w)(hf:fb<w0.heap.size)(g:Kx slots ls ats js)(hs:slots<=200)(hl:ee ls<=1000)(sz:off+8<=cs.size)(c4:cs[off+4]?=eC (vN)) (c5:cs[off+5]?=eC (vN)):nD w fb off ((cs.setIfInBounds (off+1) vL).setIfInBounds (off+2) vA) vL vA vJ ls ats js:=by
 refine⟨h.fn,by simpa using sz,?_,?_,?_,?_,h.sl,h.sa,h.sj,λe=>by have:=h.fl _ e;omega,λe=>by have:=h.fa _ e;omega,λe=>by have:=h.fj _ e;omega,h.la,h.lj,h.aj,g.al,g.jl,hl,g.f,λa ha=>?_,g.j⟩
 ·rw[Array.getElem?_setIfInBounds_ne (by omega),Array.getElem?_setIfInBounds_self_of_lt (by omega)]
 ·rw[Array.getElem?_setIfInBounds_self_of_lt (by simp;omega)]
 ·rw[Array.getElem?_setIfInBounds_ne (by omega),Array.getElem?_setIfInBounds_ne (by omega)];exact c4
 ·rw[Array.getElem?_setIfInBounds_ne (by omega),Array.getElem?_setIfInBounds_ne (by omega)];exact c5
 ·have:=g.a a ha;omega
theorem jB.adT(h:jB w0 fb rb off cs s r ls ats js vL vA vJ w)(hr:rb<w0.heap.size)(hne:fb≠rb)(m:aa (λk=>k=fb\/vL.ownBlock=eC k) w w')(hl:UF w fb off ((cs.setIfInBounds (off+1) vL).setIfInBounds (off+2) vA) vL vA ls' ats lab w'):bH w' rb s r/\∃vL vA vB vP,ak w' fb ((((cs.setIfInBounds (off+1) vL).setIfInBounds (off+2) vA).setIfInBounds (off+4) vB).setIfInBounds (off+5) vP) 43:=by obtain⟨vB,vP,h1,_⟩:=hl.ex;exact⟨ak.ae h.rd m (λe=>e.elim (λe=>hne e.symm) (λe=>by have:=h.fl _ e;omega)),vL,vA,vB,vP,h1⟩
end
theorem aay(s:tBA)(r:RS):∃k:Nat,(bu s r).num=(k:Int):=by
 have hb:=(fC s r).2.2.2.2.2.1
 have:0<=(bu s r).num:=by
  unfold bu;dsimp only;split
  ·exact ab _
  ·split
   ·exact ab _
   ·split
    ·exact ab _
    ·split
     ·exact ab _
     ·split
      ·split
       ·show 0<=_%4294967296;omega
       ·exact ab _
      ·split
       ·split
        ·exact ab _
        ·exact hb
       ·exact ab _
 exact⟨(bu s r).num.toNat,by omega⟩
structure afH(mN fN:List tBA)(w0:tW)(pb fb rb off:Nat)(cs:tAV)(s:tBA)(r0:RS)(slots g:Nat)(vJ at_:Value)(w:tW):Prop where
 ex:∃(r:RS) (p f:Nat) (ls:List aK) (ats js:List Int) (vL vA:Value),at_=vI p/\jB w0 fb rb off cs s r ls ats js vL vA vJ w /\
  bodyLJ mN fN s slots f r p ls ats js=bodyLJ mN fN s slots (slots+1) r0 0 [] [] []/\slots<p+f/\ls.length<=p/\p<=slots+1/\ats.length=ee ls/\js.length=ee ls/\g=f
theorem SS(hlab:NL)(ms:List dE)(fN:List tBA)(pb fb rb n nf cap nm cM:Nat)(oM:Option Addr)(cs:tAV)(s:tBA)(r:RS)(slots:Nat)(w:tW)(hs:s.size<=maxLen)(hn:n<nf)(hnf:nf<=255)(hnm:nm<=255)(hsl:slots<=200)(hp:ak w pb #[eK oM nm cM,eK (eC ⟨fb,0,ez⟩) nf cap] 34) (hf:ak w fb cs 43) (hr:bH w rb s r) (hpf:pb≠fb) (hpr:pb≠rb) (hfr:fb≠rb) (hsz:n*8+8<=cs.size)(hM:Sl w 129 4 (eK oM nm cM) nm (ms.flatMap dE.cells)) (F5:nm=ee ms) (hfl:nf=ee fN) (hfN:∀k (h:k<ee fN),cs[k*8]?=eC (eI fN[k]))(c1:cs[n*8+1]?=eC (vN)) (c2:cs[n*8+2]?=eC (vN)) (c3:cs[n*8+3]?=eC (vI slots)) (c4:cs[n*8+4]?=eC (vN)) (c5:cs[n*8+5]?=eC (vN)):Calls prog 48 #[vP pb,vP rb,vI n,fS eJ] w λe w'=>iG (ms.map (·.name)) fN w fb rb (n*8) cs s slots r e w':=by
 obtain⟨iI,hiI,hzI,hsI,hbI⟩:=info_parts UE;obtain⟨iN,hiN,hzN,hsN,hbN⟩:=info_parts Ca;have lr:=hr.lt;have lf:=hf.lt
 have hinit:jB w fb rb (n*8) cs s r [] [] [] (vN) (vN) (vN) w :=
  ⟨hr,by
   have e:((cs.setIfInBounds (n*8+1) (vN)).setIfInBounds (n*8+2) (vN))=cs:=by
    apply Array.ext_getElem?;intro i;rw[Array.getElem?_setIfInBounds,Array.getElem?_setIfInBounds];simp only[Array.size_setIfInBounds];split
    ·rename_i e;subst e;rw[c2];simp;omega
    ·split
     ·rename_i e;subst e;rw[c1];simp;omega
     ·rfl
   rw[e];exact hf,Sl.nil _ _ _,Sl.nil _ _ _,Sl.nil _ _ _,λk h=>by simp[Value.ownBlock]at h,λk h=>by simp[Value.ownBlock]at h,λk h=>by simp[Value.ownBlock]at h,λk h=>by simp[Value.ownBlock]at h,λk h=>by simp[Value.ownBlock]at h,λk h=>by simp[Value.ownBlock]at h,aA⟩
 have p1:=hp.c1;go_in;go_wp2_with fail;go_loopg [10,11] (slots+1) (λg vJ p wr=>afH (ms.map (·.name)) fN w pb fb rb (n*8) cs s r slots g vJ p wr)
 case atStart=>exact⟨r,0,slots+1,[],[],[],_,_,rfl,hinit,rfl,by omega,by simp,by omega,rfl,rfl,by omega⟩
 case round =>
  obtain⟨r1,p,f,ls,ats,js,vL,vA,rfl,hI,HB0,hf1,hlp,hps,hal,hjl,rfl⟩:=hrel.ex;have HB:af _:=HB0;have Yg:af (ee ats=ee ls/\js.length=ee ls):=⟨hal,hjl⟩
  have af9:ee ats<=p:=by omega
  have aga:ee js<=p:=by omega
  clear HB0 hrel hinit hal hjl;obtain⟨q1,q2,q3,qf⟩:=hI.cells hsz;have k3:=q3 3 (by omega) (by omega) (by omega);rw[c3]at k3;by_cases hlt:p<slots
  ·obtain⟨f,rfl⟩:∃g,gk=g+1:=⟨gk-1,by omega⟩
   go_wp2_with fail;refine(YC rb s r1 _ hs hI.rd).mono ?_;rintro e w1 ⟨rfl,h1,m1⟩;have hI1:=hI.read lr hfr m1 h1;rw[af,bodyLJ,iP9 hlt]at HB;have HB2:af _:=HB;clear HB hI h1 m1 q1 q2 q3 qf k3;obtain⟨nk,hnk⟩:=aay s r1;have HNK:=ai hnk;clear hnk;generalize bu s r1=o at *;obtain⟨⟨word,b32,d,sr,jmp,nn,label,name⟩,jump,num,ok,r2,bad⟩:=o;simp only[ep.val,aK.cells]at *;have hnk:=HNK.o;subst hnk;clear HNK;have Tt:w1.cell? ⟨rb,2,ez⟩=eC (fS bad):=ak.cell hI1.rd 2;have n1:=ak.lt hI1.rd;have n2:=hI1.fn.lt;have n0:=hI1.md.size;have ace:=ai hI1.sa.lt;have acf:=ai hI1.sj.lt;have acg:=ai hI1.sl.lt;cases ok with
   |false =>rw[af,iP9 (.inl rfl)]at HB2;have HN:=ai (o8 HB2.symm);clear HB2;have HM:=ai (hI1.md.alloc (.cells (aK.cells ⟨word,b32,d,sr,jmp,nn,label,name⟩) 197));go_wp2_with fail;go_ret;exact iG.no HN.o HM.o
   |true =>
   cases bad with
   |true =>rw[af,iP9 (.inr rfl)]at HB2;have HN:=ai (o8 HB2.symm);clear HB2;have HM:=ai (hI1.md.alloc (.cells (aK.cells ⟨word,b32,d,sr,jmp,nn,label,name⟩) 197));go_wp2_with fail;go_ret;exact iG.no HN.o HM.o
   |false =>
   rw[af,iN9 (by simp)]at HB2;have HB3:af _:=HB2;clear HB2;have hb1:=ak.new w1 (aK.cells ⟨word,b32,d,sr,jmp,nn,label,name⟩) 197;have hI2:jB w fb rb (n*8) cs s ⟨r2,eE⟩ ls ats js vL vA u10 (w1.alloc (.cells (aK.cells ⟨word,b32,d,sr,jmp,nn,label,name⟩) 197)):=hI1.quiet aq;go_upto_region 8 with fail;generalize hW:w1.alloc (Obj.cells #[Value.string word,Value.bool b32,Value.int IntKind.i64 d,Value.int IntKind.i64 sr,Value.int IntKind.i64 jmp,Value.int IntKind.u64 nn,Value.string label,Value.string name] 197)=W;have II:=hW ▸ hI2;have hb3:=hW ▸ hb1;have m3:aa ah w1 W:=hW ▸ aq;clear hI2 hb1 Tt hW;obtain⟨i0,i1,i2,i3,i4,i5,i6,i7⟩:=hb3.aO;simp only at i0 i1 i2 i3 i4 i5 i6 i7;have hlW:=hb3.lt;go_cut [16] (λs16 wx=>s16=fS (eS (jump=1/\(word=WIDE\/word=CALL)))/\wx=W)
   case first =>
    by_cases hj:jump=1
    ·by_cases hw1:word=WIDE
     ·have t1:=gi hw1;have HD:af (eS (jump=1/\(word=WIDE\/word=CALL))=eJ):=by rw[af,decide_eq_true_iff];exact⟨hj,.inl hw1⟩
      clear hw1;go_wp2_with fail;go_meet;exact⟨by rw[HD.o],rfl⟩
     ·have t1:=fP hw1;by_cases hw2:word=CALL
      ·have t2:=gi hw2;have HD:af (eS (jump=1/\(word=WIDE\/word=CALL))=eJ):=by rw[af,decide_eq_true_iff];exact⟨hj,.inr hw2⟩
       clear hw1 hw2;go_wp2_with fail;go_meet;exact⟨by rw[HD.o],rfl⟩
      ·have t2:=fP hw2;have HD:af (eS (jump=1/\(word=WIDE\/word=CALL))=eE):=by rw[af,decide_eq_false_iff_not];exact λe=>e.2.elim hw1 hw2
       clear hw1 hw2;go_wp2_with fail;go_meet;exact⟨by rw[HD.o],rfl⟩
    ·have HD:af (eS (jump=1/\(word=WIDE\/word=CALL))=eE):=by rw[af,decide_eq_false_iff_not];exact λe=>hj e.1
     go_wp2_with fail;go_meet;exact⟨by rw[HD.o],rfl⟩
   case rest =>
   obtain⟨rfl,rfl⟩:=hcut;have YJ:=hp.ae II.md (λe=>e.elim hpf hpr);have p0:=YJ.c0;have p1':=YJ.c1;have n3:=ar hp.lt n0;have fi:=hb3.frozen;go_upto_if 58 with fail;go_cut [16] (λ_ wx=>∃i:aK,jq (ms.map (·.name)) fN ⟨⟨word,b32,d,sr,jmp,nn,label,name⟩,jump,(nk:Int),eJ,⟨r2,eE⟩⟩=eC i/\jB w fb rb (n*8) cs s ⟨r2,eE⟩ ls ats js vL vA u10 wx/\ak wx w1.heap.size (aK.cells i) 197)
   case first =>
    by_cases SV:jump=1/\(word=WIDE\/word=CALL)
    ·have HN:=ai SV;rw[decide_eq_true SV];clear SV;have hMw:=hM.ae II.md (λk hk e=>e.elim (λe=>hM.ay hf (by decide) (hk.trans (congrArg eC e))) (λe=>hM.ay hr (by decide) (hk.trans (congrArg eC e))));by_cases hw1:word=WIDE
     ·have t1:=gi hw1;have HW:=ai hw1;clear hw1;by_cases hz:nk<nm
      ·obtain⟨gM,hgM,hcM⟩:=Sl.at4 hMw F5 rfl nk (by omega);subst hgM;have m0:=(hcM nk (by omega)).1;have lM:=ar (hM.lt gM rfl) n0;have Q1:af (jq (ms.map (·.name)) fN ⟨⟨word,b32,d,sr,jmp,nn,label,name⟩,jump,(nk:Int),eJ,⟨r2,eE⟩⟩=eC ⟨word,b32,d,0,jmp,nn,label,ms[nk].name⟩):=by rw[af,jq,iP9 HN.o];dsimp only;rw[iP9 HW.o,an,List.getElem?_map,List.getElem?_eq_getElem (by omega)];rfl
       generalize(ms[nk]'_).name=mk at *;have hz1:eS ((nm:Int)<=(nk:Int))=eE:=decide_eq_false (by omega);clear hcM hMw;go_wp2_with fail;go_meet;exact⟨_,Q1.o,hI1.quiet (((m3.set (a:=⟨w1.heap.size,3,ez⟩) (.inr (ao _)) _).set (a:=⟨w1.heap.size,7,ez⟩) (.inr (ao _)) _).set (a:=⟨w1.heap.size,7,ez⟩) (.inr (ao _)) _),((hb3.set 3 _).set 7 _).set 7 _⟩
      ·have HE:af (jq (ms.map (·.name)) fN ⟨⟨word,b32,d,sr,jmp,nn,label,name⟩,jump,(nk:Int),eJ,⟨r2,eE⟩⟩=ez):=by rw[af,jq,iP9 HN.o];dsimp only;rw[iP9 HW.o,an,List.getElem?_eq_none (by rw[List.length_map];omega)];rfl
       have Eg:af (bodyMJ (ms.map (·.name)) fN s slots r=ez):=by have:=HB3.o;rw[HE.o]at this;exact o8 this.symm
       have hz1:eS ((nm:Int)<=(nk:Int))=eJ:=decide_eq_true (by omega);clear hMw;go_wp2_with fail;go_ret;exact iG.no Eg.o ((hI1.md.trans m3.of_nil).set (a:=⟨w1.heap.size,3,ez⟩) (.inr n0) _ |>.set (a:=⟨w1.heap.size,7,ez⟩) (.inr n0) _)
     ·have t1:=fP hw1;have HW:=ai hw1;clear hw1 hMw;by_cases hz:nk<nf
      ·have f0:wc.cell? ⟨fb,nk*8,ez⟩=eC (eI fN[nk]):=by rw[II.fn.cell,Array.getElem?_setIfInBounds_ne (by omega),Array.getElem?_setIfInBounds_ne (by omega)];exact hfN nk (by omega)
       have Q1:af (jq (ms.map (·.name)) fN ⟨⟨word,b32,d,sr,jmp,nn,label,name⟩,jump,(nk:Int),eJ,⟨r2,eE⟩⟩=eC ⟨word,b32,d,0,jmp,nn,label,fN[nk]⟩):=by rw[af,jq,iP9 HN.o];dsimp only;rw[iN9 HW.o,an,List.getElem?_eq_getElem (by omega)];rfl
       generalize fN[nk]'_=mk at *;have hz1:eS ((nf:Int)<=(nk:Int))=eE:=decide_eq_false (by omega);go_wp2_with fail;go_meet;exact⟨_,Q1.o,hI1.quiet (((m3.set (a:=⟨w1.heap.size,3,ez⟩) (.inr (ao _)) _).set (a:=⟨w1.heap.size,7,ez⟩) (.inr (ao _)) _).set (a:=⟨w1.heap.size,7,ez⟩) (.inr (ao _)) _),((hb3.set 3 _).set 7 _).set 7 _⟩
      ·have HE:af (jq (ms.map (·.name)) fN ⟨⟨word,b32,d,sr,jmp,nn,label,name⟩,jump,(nk:Int),eJ,⟨r2,eE⟩⟩=ez):=by rw[af,jq,iP9 HN.o];dsimp only;rw[iN9 HW.o,an,List.getElem?_eq_none (by omega)];rfl
       have Eg:af (bodyMJ (ms.map (·.name)) fN s slots r=ez):=by have:=HB3.o;rw[HE.o]at this;exact o8 this.symm
       have hz1:eS ((nf:Int)<=(nk:Int))=eJ:=decide_eq_true (by omega);go_wp2_with fail;go_ret;exact iG.no Eg.o ((hI1.md.trans m3.of_nil).set (a:=⟨w1.heap.size,3,ez⟩) (.inr n0) _ |>.set (a:=⟨w1.heap.size,7,ez⟩) (.inr n0) _)
    ·rw[decide_eq_false SV];have HN:=ai SV;clear SV;go_wp2_with fail;go_meet;exact⟨_,by rw[jq,iN9 HN.o],II,hb3⟩
   case rest =>
   obtain⟨i,HI,yo,hb4⟩:=hcut;rw[HI]at HB3;have HB:af (bodyLJ (ms.map (·.name)) fN s slots f ⟨r2,eE⟩ (p+dH i.word) (ls++[i]) (ats++[(p:Int)]) (js++[jump])=bodyLJ (ms.map (·.name)) fN s slots (slots+1) r 0 [] [] []):=HB3;clear HB3 HI II hb3 i0 i1 i2 i3 i4 i5 i6 i7 hI1 m3 YJ p0 p1' hlW fi;obtain⟨xw,x32,xd,xs,xj,xn,xl,xm⟩:=i;obtain⟨i0,i1,i2,i3,i4,i5,i6,i7⟩:=hb4.aO;obtain⟨q1,q2,q3,qf⟩:=yo.cells hsz;have hlW:=hb4.lt;have hlf:=yo.fn.lt;have qa:=λo=>((yo.quiet (aA.alloc o)).cells hsz).1;have HP:=ai yo;have HQ:=ai hb4;simp only at i0 i1 i2 i3 i4 i5 i6 i7 HB;have hL1:af (∀k,vL.ownBlock=eC k->k≠w1.heap.size):=λk hk=>by have:=acg.o k hk;omega
   clear yo hb4;go_upto_region 23 with fail;go_cut [] (λwx=>∃v2,jB w fb rb (n*8) cs s ⟨r2,eE⟩ (ls++[⟨xw,x32,xd,xs,xj,xn,xl,xm⟩]) ats js v2 vA u10 wx/\ak wx w1.heap.size (aK.cells ⟨xw,x32,xd,xs,xj,xn,xl,xm⟩) 197)
   case first =>
    skip
    go_region_law (refine jV rfl (.tmp 121) (.tmp 123) 40 rfl 197 iI (.agg (aK.cells {})) 8 88 underlying40 hiI hzI hsI hbI rfl (by decide) vL (ee ls) (pz ls) (by simp[Act.eval]) (HP.o.quiet (aU.alloc _)).sl ⟨wc.heap.size,0,ez⟩ 1 1 (aK.di ⟨xw,x32,xd,xs,xj,xn,xl,xm⟩) (by simp[Act.eval]) rfl (aY _ _ _ _ (by simp)) (YF _) (by unfold maxLen;omega) (by omega) ?_;intro v2 w2 s2 m2 l2;obtain⟨o2,cp2,rfl,_⟩:=Sl.view s2;obtain⟨y1,y2,yf⟩:=HP.o.mid hsz lf (.inl rfl) (aq.drew) m2)
    all_goals
     go_wp2_with fail;go_meet;refine⟨_,(HP.o.quiet (aq.drew)).aem lf lr hfr s2 m2 l2,?_⟩;have hq2:=ak.ae (ak.drew (ak.alloc HQ.o _)) m2 (λe=>hL1.o _ e rfl);exact ak.setOther (a:=⟨fb,n*8+1,ez⟩) hq2 (by show fb≠w1.heap.size;omega) _
   case rest =>
   obtain⟨v2,yo,hb4⟩:=hcut;clear i0 i1 i2 i3 i4 i5 i6 i7 q1 q2 q3 qf hlW hlf qa HP HQ;have hsi:=EF xw;obtain⟨q1,q2,q3,qf⟩:=yo.cells hsz;have hlW:=hb4.lt;have hlf:=yo.fn.lt;have HP:=ai yo;have HQ:=ai hb4;clear yo hb4
   go_upto_region 25 with(first
    |(at_builtin;refine aP _ rfl (.tmp 131) (.tmp 133) 41 rfl 3 iN (vI 0) 1 8 underlying41 hiN hzN hsN hbN rfl (by decide) vA (ee ats) (jW ats) rfl (HP.o.quiet aq).sa ⟨wc.heap.size,0,ez⟩ 1 1 [vI p] rfl rfl (aY _ _ _ _ (by simp)) (BD _) (by unfold maxLen;omega) (by omega) ?_;intro v3 w3 s3 m3 l3;obtain⟨o3,cp3,rfl,_⟩:=Sl.view s3;obtain⟨y1,y2,yf⟩:=HP.o.mid hsz lf (.inr rfl) aq m3;have HP5:af (jB w fb rb (n*8) cs s ⟨r2,eE⟩ (ls++[⟨xw,x32,xd,xs,xj,xn,xl,xm⟩]) (ats++[(p:Int)]) js v2 _ u10 _):=(HP.o.quiet aq).aen lf lr hfr s3 m3 l3;have HQ5:af (ak _ w1.heap.size (aK.cells ⟨xw,x32,xd,xs,xj,xn,xl,xm⟩) 197):=ak.setOther (a:=⟨fb,n*8+2,ez⟩) (ak.ae (ak.alloc HQ.o _) m3 (λe=>by have:=ace.o _ e;omega)) (show fb≠w1.heap.size by omega) (Value.slice o3 (ee ats+1) cp3)))
   go_wp2_with (first
    |(at_builtin;go_loud (refine aP _ rfl (.tmp 137) (.tmp 139) 41 rfl 3 iN (vI 0) 1 8 underlying41 hiN hzN hsN hbN rfl (by decide) u10 (ee js) (jW js) rfl (HP5.o.quiet aq).sj ⟨w3.heap.size,0,ez⟩ 1 1 [vI jump] rfl rfl (aY _ _ _ _ (by simp)) (BD _) (by unfold maxLen;omega) (by omega) ?_;intro v4 w4 s4 m4 l4;obtain⟨o4,cp4,rfl,_⟩:=Sl.view s4;have HP6:af (jB w fb rb (n*8) cs s ⟨r2,eE⟩ (ls++[⟨xw,x32,xd,xs,xj,xn,xl,xm⟩]) (ats++[(p:Int)]) (js++[jump]) v2 _ _ w4):=(HP5.o.quiet aq).aeo lf lr s4 m4 l4;have hq6:=ak.ae (ak.alloc HQ5.o _) m4 (λe=>by have:=acf.o _ e;omega);clear y1 y2 yf s3 m3 l3 s4 m4 l4 q1 q2 q3 qf;obtain⟨i0,i1,i2,i3,i4,i5,i6,i7⟩:=hq6.aO;simp only at i0 i1 i2 i3 i4 i5 i6 i7))
    |(go_at_call 88;refine(EE ⟨xw,x32,xd,xs,xj,xn,xl,xm⟩ _).mono ?_;rintro e w5 ⟨rfl,m5⟩))
   go_roundg f
   case measure=>omega
   case rel=>exact⟨⟨r2,eE⟩,p+dH xw,f,_,_,_,_,_,by go_num,HP6.o.quiet m5,HB.o,by omega,by simp;omega,by omega,by simp[Yg.o.1],by simp[Yg.o.2],rfl⟩
  ·obtain⟨oL,cL,rfl,vw⟩:=hI.sl.view;by_cases hpe:p=slots
   ·subst hpe;obtain⟨f,rfl⟩:∃g,gk=g+1:=⟨gk-1,by omega⟩
    rw[af,bodyLJ,iN9 hlt]at HB;have HB2:af _:=HB;have HG:af (Kx p ls ats js):=Bn _ _ s p _ _ _ _ _ _ _ HB2.o.symm (SQ p);clear HB;by_cases hk0:ee ls=0
    ·have HN:af (bodyMJ (ms.map (·.name)) fN s p r=ez):=by obtain rfl:=List.length_eq_zero_iff.1 hk0;rw[af,bodyMJ,<-HB2.o];exact iP9 (.inr rfl)
     go_wp2_with fail;go_ret;exact iG.no HN.o hI.md
    ·obtain⟨gL,csL,rfl,hbL,htk,hnc,hcm⟩:=vw (by omega);have Tq:af (∃li last,ls=li++[last]):=⟨ls.dropLast,ls.getLast (λe=>hk0 (by rw[e];rfl)),(List.dropLast_concat_getLast _).symm⟩
     obtain⟨li,⟨lw,l32,ld,lS,lj,ln,ll,lm⟩,hli⟩:=Tq.o;have HLI:=ai hli;have hlen:ee ls=ee li+1:=by rw[hli];simp
     have Tu:af (pX ls=ny lw):=by rw[af,pX,hli,List.getLast?_append];rfl
     have hcell:∀j,j<8->wr.cell? ⟨gL,ee li*8+j,ez⟩=(aK.di ⟨lw,l32,ld,lS,lj,ln,ll,lm⟩)[j]?:=by intro j hj;rw[aX hbL htk _ (by omega),pz,hli,flat_get aK.di 8 aK.qL _ (ee li) j (by simp) hj];simp
     have e0:wr.cell? ⟨gL,ee li*8,ez⟩=eC (eI lw):=hcell 0 (by omega);have e1:wr.cell? ⟨gL,ee li*8+1,ez⟩=eC (fS l32):=hcell 1 (by omega);have e2:wr.cell? ⟨gL,ee li*8+2,ez⟩=eC (vI ld):=hcell 2 (by omega);have e3:wr.cell? ⟨gL,ee li*8+3,ez⟩=eC (vI lS):=hcell 3 (by omega);have e4:wr.cell? ⟨gL,ee li*8+4,ez⟩=eC (vI lj):=hcell 4 (by omega);have e5:wr.cell? ⟨gL,ee li*8+5,ez⟩=eC (vU ln):=hcell 5 (by omega);have e6:wr.cell? ⟨gL,ee li*8+6,ez⟩=eC (eI ll):=hcell 6 (by omega);have e7:wr.cell? ⟨gL,ee li*8+7,ez⟩=eC (eI lm):=hcell 7 (by omega);clear hcell hbL htk hli vw;go_wp2_with fail;refine(UD ⟨lw,l32,ld,lS,lj,ln,ll,lm⟩ _).mono ?_;rintro e w2 ⟨rfl,m2⟩;have hI2:=hI.quiet m2;simp only;cases hen:ny lw with
     |false =>
      have HN:af (bodyMJ (ms.map (·.name)) fN s p r=ez):=by rw[af,bodyMJ,<-HB2.o];exact iP9 (.inr (by rw[Tu.o,hen]))
      go_wp2_with fail;go_ret;exact iG.no HN.o hI2.md
     |true =>
      have HS:af (_=_):=Ky HB2.o.symm rfl (by rw[Tu.o,hen]);go_wp2_with fail;refine(hlab _ fb (n*8) _ _ _ u10 ls ats js (hI2.afG lf HG.o hsl (by omega) hsz c4 c5)).mono ?_;rintro e w3 ⟨rfl,m3,h3⟩;go_wp2_with fail;go_ret;refine⟨?_,hI2.YI m3,λo ho=>?_⟩
      ·rw[HS.o,Option.isSome_map];rfl
      ·rw[HS.o]at ho;obtain⟨o',ho',rfl⟩:=Option.map_eq_some_iff.1 ho;exact hI2.adT lr hfr m3 (h3 o' ho')
   ·have HN:af (bodyMJ (ms.map (·.name)) fN s slots r=ez):=by
     rw[af,bodyMJ,<-HB.o];cases gk with
     |zero=>rfl
     |succ g=>rw[bodyLJ,iN9 hlt];exact iP9 (.inl hpe)
    have agb:(p:Int)≠(slots:Int):=by omega
    go_wp2_with fail;go_ret;exact iG.no HN.o hI.md
set_option linter.all false
def rdBodiesJ(mN fN:List tBA)(s:tBA):List jR->RS->Option RS
 |[],r=>eC r
 |f::l,r=>match bodyMJ mN fN s f.slots r with
  |none=>ez
  |some r'=>rdBodiesJ mN fN s l r'
def FJ:tBA:=T [83,80,79,76,2]
def fM(s:tBA)(ms:List dE)(fs:List jR)(t:Nat)(r:RS):Option (List dE×List jR) :=
 if r.bad=eJ\/gx ms fs=eE\/200<t then ez
 else match rdBodiesJ (ms.map (·.name)) (fs.map (·.name)) s fs r with
  |none=>ez
  |some r3=>if r3.bad=eE/\r3.pos=s.size then eC (ms,fs)else ez
def gq(s:tBA):Option (List dE×List jR) :=
 if s.size<5\/s.extract 0 5≠FJ then ez
 else
  let n:=rb s ⟨5,eE⟩
  let m:=rdMaps s n.1 n.2 []
  let n2:=rb s m.2
  let f:=rdFns s n2.1 n2.2 [] 0
  fM s m.1 f.1 f.2.1 f.2.2
theorem ak.tq{w:tW}{a b:Nat}{cs ds:tAV}{t u:TypeId}(h:ak w a cs t)(k:ak w b ds u)(hn:t≠u):a≠b:=λe=>by
 subst e;have h1:w.heap[a]?=eC (.cells cs t (0,0)):=h;have h2:w.heap[a]?=eC (.cells ds u (0,0)):=k;rw[h1]at h2;injection h2 with h2;injection h2 with _ h3 _;exact hn h3
structure FK(fs:List jR)(k:Nat)(cs:tAV):Prop where
 sz:ee fs*8<=cs.size
 nm:∀i (h:i<ee fs),cs[i*8]?=eC (eI fs[i].name)
 row:∀i (h:i<ee fs),k<=i->cs[i*8+1]?=eC (vN)/\cs[i*8+2]?=eC (vN)/\cs[i*8+3]?=eC (vI fs[i].slots)/\cs[i*8+4]?=eC (vN)/\cs[i*8+5]?=eC (vN)
theorem FK.step{fs:List jR}{k:Nat}{cs:tAV}(h:FK fs k cs)(vL vA vB vP:Value):FK fs (k+1) ((((cs.setIfInBounds (k*8+1) vL).setIfInBounds (k*8+2) vA).setIfInBounds (k*8+4) vB).setIfInBounds (k*8+5) vP):=by
 have key:∀j,j≠k*8+1->j≠k*8+2->j≠k*8+4->j≠k*8+5->((((cs.setIfInBounds (k*8+1) vL).setIfInBounds (k*8+2) vA).setIfInBounds (k*8+4) vB).setIfInBounds (k*8+5) vP)[j]?=cs[j]?:=λj h1 h2 h3 h4=>by rw[Array.getElem?_setIfInBounds_ne (Ne.symm h4),Array.getElem?_setIfInBounds_ne (Ne.symm h3),Array.getElem?_setIfInBounds_ne (Ne.symm h2),Array.getElem?_setIfInBounds_ne (Ne.symm h1)]
 refine⟨by simpa using h.sz,λi hi=>by rw[key _ (by omega) (by omega) (by omega) (by omega)];exact h.nm i hi,λi hi hk=>?_⟩;obtain⟨h1,h2,h3,h4,h5⟩:=h.row i hi (by omega);exact⟨by rw[key _ (by omega) (by omega) (by omega) (by omega)];exact h1,by rw[key _ (by omega) (by omega) (by omega) (by omega)];exact h2,by rw[key _ (by omega) (by omega) (by omega) (by omega)];exact h3,by rw[key _ (by omega) (by omega) (by omega) (by omega)];exact h4,by rw[key _ (by omega) (by omega) (by omega) (by omega)];exact h5⟩
structure Kz(w0:tW)(pb qz:Nat)(vM:Value)(oF:Option Addr)(cF:Nat)(ms:List dE)(fs:List jR)(k:Nat)(s:tBA)(r:RS)(w:tW):Prop where
 rd:bH w qz s r
 pg:ak w pb #[vM,eK oF (ee fs) cF] 34
 sm:Sl w 129 4 vM (ee ms) (ms.flatMap dE.cells)
 fn:0<ee fs->∃g cs,oF=eC ⟨g,0,ez⟩/\ak w g cs 43/\FK fs k cs/\w0.heap.size<=g
 lo:w0.heap.size<=qz
 lp:w0.heap.size<=pb
 md:aa ah w0 w
theorem mE.ach{w0 w:tW}{pb qz:Nat}{s:tBA}{r:RS}{ms:List dE}{fs:List jR}{vM vF:Value}(h:mE w0 pb qz s r ms fs vM vF w):∃oF cF,vF=eK oF (ee fs) cF/\Kz w0 pb qz vM oF cF ms fs 0 s r w:=by
 obtain⟨oF,cF,rfl,hv⟩:=h.sf.view;have hrp:=h.rp;have hlo:=h.YW;refine⟨oF,cF,rfl,h.rd,h.pg,h.sm,λhp=>?_,hlo,by omega,h.md⟩;obtain⟨g,_,rfl,_⟩:=hv hp;obtain⟨cs,hb,hB⟩:=h.sf.blk;have:=h.ff g rfl;have key:∀i (hi:i<ee fs) c,c<8->cs[i*8+c]?=(jR.cells fs[i])[c]?:=λi hi c hc=>by rw[hB.get _ (by omega),flat_get jR.cells 8 (λ_=>rfl) fs i c hi hc]
 exact⟨g,cs,rfl,hb,⟨by rw[hB.sz];have:=hB.nc;omega,λi hi=>key i hi 0 (by omega),λi hi _=>⟨key i hi 1 (by omega),key i hi 2 (by omega),key i hi 3 (by omega),key i hi 4 (by omega),key i hi 5 (by omega)⟩⟩,by omega⟩
theorem Kz.step{w0 w w':tW}{pb qz g cF k:Nat}{vM vL vA vB vP:Value}{ms:List dE}{fs:List jR}{s:tBA}{r r':RS}{cs:tAV}(h:Kz w0 pb qz vM (eC ⟨g,0,ez⟩) cF ms fs k s r w)(hb:ak w g cs 43)(hR:FK fs k cs)(hg:w0.heap.size<=g)(m:aa (λk=>k=g\/k=qz) w w') (hr:bH w' qz s r') (hb':ak w' g ((((cs.setIfInBounds (k*8+1) vL).setIfInBounds (k*8+2) vA).setIfInBounds (k*8+4) vB).setIfInBounds (k*8+5) vP) 43):Kz w0 pb qz vM (eC ⟨g,0,ez⟩) cF ms fs (k+1) s r' w' :=
 ⟨hr,h.pg.ae m (λe=>e.elim (h.pg.tq hb (by decide)) (h.pg.tq h.rd (by decide))),h.sm.ae m (λk hk e=>e.elim (λe=>h.sm.ay hb (by decide) (hk.trans (congrArg eC e))) (λe=>h.sm.ay h.rd (by decide) (hk.trans (congrArg eC e)))),
  λ_=>⟨g,_,rfl,hb',hR.step _ _ _ _,hg⟩,h.lo,h.lp,h.md.step m (λk hk e=>by have:=h.lo;rcases e with e|e<;>omega)⟩
theorem Kz.quiet{w0 w w':tW}{pb qz cF k:Nat}{vM:Value}{oF:Option Addr}{ms:List dE}{fs:List jR}{s:tBA}{r:RS}(h:Kz w0 pb qz vM oF cF ms fs k s r w)(m:aa ah w w'):Kz w0 pb qz vM oF cF ms fs k s r w' :=
 ⟨ak.ae h.rd m id,h.pg.ae m id,h.sm.ae m (λ_ _=>id),λhp=>by obtain⟨g,cs,h1,h2,h3,h4⟩:=h.fn hp;exact⟨g,cs,h1,h2.ae m id,h3,h4⟩,h.lo,h.lp,h.md.trans m⟩
def Xz(w:tW)(vF:Value)(fs:List jR):Prop:=∃o cap,vF=eK o (ee fs) cap/\(0<ee fs->∃g cs,o=eC ⟨g,0,ez⟩/\ak w g cs 43/\∀i (h:i<ee fs),cs[i*8]?=eC (eI fs[i].name))
def gD(w:tW)(s:tBA)(e:Ending)(w':tW):Prop :=
 aa ah w w'/\match gq s with
  |none=>∃p,e=fR (gb #[.pointer p,fS eE])
  |some o=>∃pb oM cM vF,e=fR (gb #[vP pb,fS eJ])/\ak w' pb #[eK oM (ee o.1) cM,vF] 34/\Xz w' vF o.2/\o.1.length<=8/\o.2.length<=16
theorem gD.no{w w':tW}{s:tBA}{p:Option Addr}(h:gq s=ez)(m:aa ah w w'):gD w s (fR (gb #[.pointer p,fS eE])) w':=by refine⟨m,?_⟩;rw[h];exact⟨p,rfl⟩
def DU(s:tBA)(ms:List dE)(n:Nat)(r:RS):Option (List dE×List jR):=fM s ms (rdFns s n r [] 0).1 (rdFns s n r [] 0).2.1 (rdFns s n r [] 0).2.2
def FM(s:tBA)(n:Nat)(r:RS):Option (List dE×List jR):=DU s (rdMaps s n r []).1 (rb s (rdMaps s n r []).2).1 (rb s (rdMaps s n r []).2).2
theorem XA(s:tBA)(h5:¬s.size<5)(hh:s.extract 0 5=FJ):gq s=FM s (rb s ⟨5,eE⟩).1 (rb s ⟨5,eE⟩).2:=by rw[gq,iN9 (λe=>e.elim h5 (λe=>e hh))];rfl
