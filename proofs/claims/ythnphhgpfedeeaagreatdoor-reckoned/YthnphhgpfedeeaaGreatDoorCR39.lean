import Derived.Test.YthnphhgpfedeeaaGreatDoorCR22
import Derived.Test.YthnphhgpfedeeaaGreatDoorCR38
namespace Go.Proofs.YthnphhgpfedeeaaGreatDoor
open Go.RowKit Tryz
open Bool renaming and_eq_true->al
open List renaming length_append->ab,getElem_mem->ba
open Nat renaming zero_le->an,le_refl->ao,le_trans->ar
set_option linter.all false
set_option maxRecDepth 100000
set_option maxHeartbeats 2000000
def LOk(x:dN):Prop:=x.In
theorem DH:∀(ts:List tLB) (lH:Bool) (n:Nat) (acc ls:List dN),parseP ts lH n acc=.inl ls->(∀x∈acc,LOk x)->∀x∈ls,LOk x
 |[],_,_,acc,ls,h,ha=>by rw[parseP]at h;injection h with h;subst h;exact ha
 |t::ts,lH,n,acc,ls,h,ha=>by
  rw[parseP]at h;cases hl:bT t with
  |none=>rw[hl]at h;cases h
  |some x =>
   rw[hl]at h;dsimp only at h;split at h
   ·cases h
   ·refine DH ts _ _ _ ls h (λy hy=>?_);rcases List.mem_append.1 hy with hy|hy
    ·exact ha y hy
    ·rw[List.mem_singleton.1 hy];exact XR hl
theorem BH{n:tLB}(h:nameB n=true):n.length<=16:=by unfold nameB at h;simp only[al,decide_eq_true_eq]at h;exact h.1.1
theorem LOk.name{x:dN}(h:LOk x)(hk:x.kind=1\/x.kind=2\/x.kind=3):nameB x.name=true:=h.nm hk
theorem DI:∀(fs gs:List aS),dE (fs++gs)=dE fs+dE gs
 |[],gs=>by simp[dE]
 |f::fs,gs=>by rw[List.cons_append,dE,dE,DI fs gs];omega
theorem DJ:∀(fs:List aS) (i:Nat) (h:i<fs.length) (g:aS),dE (fs.set i g)+fs[i].code.length=dE fs+g.code.length
 |f::fs,0,_,g=>by rw[List.set_cons_zero,dE,dE];simp;omega
 |f::fs,i+1,h,g=>by rw[List.set_cons_succ,dE,dE,List.getElem_cons_succ];have:=DJ fs i (by simpa using h) g;omega
theorem KP{fs gs:List aS}(h:fs.Perm gs):dE fs=dE gs:=by
 induction h with
 |nil=>rfl
 |cons x _ ih=>rw[dE,dE,ih]
 |swap x y l=>rw[dE,dE,dE,dE];omega
 |trans _ _ h1 h2=>rw[h1,h2]
theorem Io(x:dH)(h:x.k<88):1<=x.o.slots:=by
 have:∀k,k<88->1<=(aq[k]?.getD iK).slots:=by decide +kernel
 exact this x.k h
structure Yb(k:WK)(b:BS):Prop where
 m:b.ms.length=k.maps.length
 m8:k.maps.length<=8
 f:b.fs.length=k.funcs.length
 f16:k.funcs.length<=16
 tot:dE b.fs<=k.slots
 sl:b.slot<=k.slots
 Ux:k.slots<=200
 pm:∀x∈b.ms,x.name.length<=16/\x.key<=16/\x.value<=16/\x.entries<=16
 fn:∀f∈b.fs,f.name.length<=16/\∀x∈f.code,eU x/\x.name.length<=16
theorem BK{a:bC}{most:Int}(h:AX a most=true):1<=szP a/\szP a<=most:=by unfold AX at h;simp only[al,decide_eq_true_eq]at h;exact⟨h.1.2,h.2⟩
theorem Qc{o:OL}{k:WK}{x:dN}(h:jL o k x=0):x.x.fits=true/\(x.x.o.jumps&&!lg (o.fs.getD (k.funcs.length-1) {}) x.x.r.label)=false/\(decide ((if x.x.r.s=1 then x.x.o.aO else 0)=2)&&decide (o.maps.count x.x.r.name=0))=false/\k.slots+x.x.o.slots<=200:=by
 unfold jL at h;by_cases h1:x.x.fits=false
 ·rw[iP9 h1]at h;cases h
 rw[iN9 h1]at h;by_cases h2:(x.x.o.jumps&&!lg (o.fs.getD (k.funcs.length-1) {}) x.x.r.label)=true
 ·rw[iP9 h2]at h;cases h
 rw[iN9 h2]at h;by_cases h3:(decide ((if x.x.r.s=1 then x.x.o.aO else 0)=2)&&decide (o.maps.count x.x.r.name=0))=true
 ·rw[iP9 h3]at h;cases h
 rw[iN9 h3]at h;by_cases h4:200<k.slots+x.x.o.slots
 ·rw[iP9 h4]at h;cases h
 exact⟨by simpa using h1,by simpa using h2,by simpa using h3,by omega⟩
theorem Yb.step{o:OL}{k:WK}{b:BS}{x:dN}(h:Yb k b)(hx:LOk x)(h0:dJ o k x=0)(hlab:∀n y,(fA (o.fs.getD n {}).bB y).getD 0<=20000)(hne:x.kind=4->0<b.fs.length):Yb (fI k x) (gH o b x):=by
 unfold dJ at h0;unfold fI gH;by_cases k1:x.kind=1
 ·rw[iP9 k1]at h0 ⊢;rw[iP9 k1];unfold yM at h0;split at h0
  ·cases h0
  rename_i hs
  split at h0
  ·cases h0
  split at h0
  ·cases h0
  have hs':yF (x.ns.getD 0 aT) (x.ns.getD 1 aT) (x.ns.getD 2 aT)=true:=by simpa using hs
  unfold yF at hs';simp only[al]at hs';have s0:=BK hs'.1.1;have s1:=BK hs'.1.2;have s2:=BK hs'.2;refine⟨by simp[xE,h.m],by simp[xE];omega,h.f,h.f16,h.tot,h.sl,h.Ux,λy hy=>?_,h.fn⟩;rcases List.mem_append.1 hy with hy|hy
  ·exact h.pm y hy
  ·rw[List.mem_singleton.1 hy];unfold ack;exact⟨BH (hx.name (.inl k1)),by simp only;omega,by simp only;omega,by simp only;omega⟩
 rw[iN9 k1]at h0 ⊢;rw[iN9 k1];by_cases k2:x.kind=2
 ·rw[iP9 k2]at h0 ⊢;rw[iP9 k2];unfold jK at h0;split at h0
  ·cases h0
  split at h0
  ·cases h0
  refine⟨h.m,h.m8,by simp[fB,h.f],by simp[fB];omega,?_,an _,h.Ux,h.pm,λy hy=>?_⟩
  ·show dE (b.fs++[⟨x.name,[]⟩])<=k.slots
   rw[DI];have:=h.tot
   simpa [dE]using this
  ·rcases List.mem_append.1 hy with hy|hy
   ·exact h.fn y hy
   ·rw[List.mem_singleton.1 hy];exact⟨BH (hx.name (.inr (.inl k2))),λz hz=>(by cases hz)⟩
 rw[iN9 k2]at h0 ⊢;rw[iN9 k2];by_cases k3:x.kind=3
 ·rw[iP9 k3]at h0 ⊢;rw[iN9 (by omega)];exact⟨h.m,h.m8,h.f,h.f16,h.tot,h.sl,h.Ux,h.pm,h.fn⟩
 rw[iN9 k3]at h0 ⊢;by_cases k4:x.kind=4
 ·rw[iP9 k4]at h0 ⊢;rw[iP9 k4];have hI:x.x.In:=hx.x k4;obtain⟨hfit,_,_,ae8⟩:=Qc h0;have hp:=hne k4;have hlt:b.fs.length-1<b.fs.length:=by omega
  have hl:b.last=b.fs[b.fs.length-1]:=by unfold BS.last;rw[List.getD_eq_getElem?_getD,List.getElem?_eq_getElem hlt];rfl
  have hs1:=Io x.x hI.k;have hs2:=x.x.vz;refine⟨h.m,h.m8,(by show(b.fs.set _ _).length=k.funcs.length;rw[List.length_set];exact h.f),h.f16,?_,?_,?_,h.pm,λg hg=>?_⟩
  ·show dE (b.fs.set _ _)<=k.slots+x.x.o.slots
   have:=DJ b.fs _ hlt ⟨b.last.name,b.last.code++[XX o (b.fs.length-1) b.slot x.x]⟩;rw[hl]at this ⊢;simp only[ab,List.length_singleton]at this;have:=h.tot;omega
  ·have:=h.sl;show b.slot+x.x.o.slots<=k.slots+x.x.o.slots
   omega
  ·show k.slots+x.x.o.slots<=200
   omega
  ·rcases List.mem_or_eq_of_mem_set hg with hg|rfl
   ·exact h.fn g hg
   ·have hL:=h.fn _ (ba hlt);rw[hl];refine⟨hL.1,λz hz=>?_⟩;rcases List.mem_append.1 hz with hz|hz
    ·exact hL.2 z hz
    ·rw[List.mem_singleton.1 hz]
     have hnm:x.x.r.name.length<=16:=by
      rcases hI.i.m with e|e
      ·rw[e];exact an _
      ·exact BH e
     refine⟨⟨hI.k,ar hI.i.d (by decide),ar hI.i.s (by decide),?_,hI.i.n,hI.i.h⟩,hnm⟩;show -32768<=BB o (b.fs.length-1) b.slot x.x/\BB o (b.fs.length-1) b.slot x.x<=32767
     unfold BB;have hb:=hlab (b.fs.length-1) x.x.r.label;have:=h.sl;have:=h.Ux;split
     ·omega
     ·exact hI.i.j
 ·rw[iN9 k4,iN9 k4];exact h
theorem Yb.new:Yb {} {}:=⟨rfl,an _,rfl,an _,ao _,ao _,an _,λx h=>(by cases h),λf h=>(by cases h)⟩
def Mm(ls:List dN):WK:=ls.foldl fI {}
theorem Qd(ls:List dN)(k:Nat)(h:k<ls.length):Mm (ls.take (k+1))=fI (Mm (ls.take k)) ls[k]:=by unfold Mm;rw[List.take_succ_eq_append_getElem h,List.foldl_append];rfl
theorem BM(o:OL):∀(ls:List dN) (k:WK) (n:Nat),(firstP o ls k n).1=0->∀i (h:i<ls.length),dJ o ((ls.take i).foldl fI k) ls[i]=0
 |x::ls,k,n,h,i,hi=>by
  rw[firstP]at h;split at h
  ·rename_i h0
   cases i with
   |zero=>exact h0
   |succ i=>exact BM o ls (fI k x) (n+1) h i (by simpa using hi)
  ·rename_i h0;exact absurd h h0
theorem Ip{ls:List dN}(hl:∀x∈ls,LOk x)(hin:InF ls)(hn:ls.length<=10000)(h0:(firstP (ah ls) ls {} 0).1=0):∀i,i<=ls.length->Yb (Mm (ls.take i)) (aK (ah ls) (ls.take i))
 |0,_=>by rw[List.take_zero];exact Yb.new
 |i+1,h=>by
  have ih:=Ip hl hin hn h0 i (by omega);rw[Qd ls i (by omega),vQ (ah ls) ls i (by omega)];refine ih.step (hl _ (ba _)) (BM _ ls {} 0 h0 i (by omega)) (λn y=>?_) (λh4=>?_)
  ·have h1:=qI ls ls.length (ao _);rw[List.take_of_length_le (ao _)]at h1;refine Ib (λp hp=>?_) y;rw[List.getD_eq_getElem?_getD]at hp;cases hq:(ah ls).fs[n]? with
   |none=>rw[hq]at hp;cases hp
   |some f =>rw[hq]at hp;have:=h1 f (List.mem_of_getElem? hq) p hp;omega
  ·rw[(uj (ah ls) ls i (by omega)).1];exact List.length_pos_iff.2 (hin i (by omega) (.inr h4))
theorem KQ(x:PI):(qG x).length<=16:=by
 unfold qG uO;split
 ·simp[gY,gG]
 ·simp[gY,gG]
theorem DL:∀(fs:List aS) (f:aS),f∈fs->f.code.length<=dE fs
 |g::fs,f,h=>by
  rw[dE];rcases List.mem_cons.1 h with rfl|h
  ·omega
  ·have:=DL fs f h;omega
theorem Mo(l:tLB):(T l).size=l.length:=rfl
theorem Yb.enc{k:WK}{b:BS}(h:Yb k b){ms:List az}{fs:List aS}(hm:ms.Perm b.ms)(hf:fs.Perm b.fs):EOk ms fs/\(∀f∈fs,∀x∈f.code,x.name.length<=255)/\dE fs<=200/\(ib 1 ms fs).length<=300000/\ms.length<=8/\fs.length<=16:=by
 have JG:ms.length<=8:=by rw[hm.length_eq,h.m];exact h.m8
 have hfl:fs.length<=16:=by rw[hf.length_eq,h.f];exact h.f16
 have hpl:dE fs<=200:=by rw[KP hf];exact ar h.tot h.Ux
 have hpm:∀x∈ms,_:=λx hx=>h.pm x (hm.mem_iff.1 hx);have hfn:∀f∈fs,_:=λf hx=>h.fn f (hf.mem_iff.1 hx);have hcl:∀f∈fs,f.code.length<=200:=λf hx=>ar (DL fs f hx) hpl;refine⟨⟨by omega,by omega,λm hx=>?_,λf hx=>?_⟩,λf hx x hxx=>?_,hpl,?_,JG,hfl⟩
 ·have:=hpm m hx;omega
 ·have:=hfn f hx;exact⟨by omega,hcl f hx,λx hxx=>(this.2 x hxx).1⟩
 ·have:=((hfn f hx).2 x hxx).2;omega
 ·have e1:(ms.flatMap oD).length<=ms.length*20:=lq oD 20 ms (λm hx=>by have:=(hpm m hx).1;unfold oD;rw[ab,gZ,gY,Mo];simp;omega);have e2:(fs.flatMap jN).length<=fs.length*19:=lq jN 19 fs (λf hx=>by have:=(hfn f hx).1;unfold jN;rw[ab,gZ,gY,Mo];simp[ko];omega);have e3:(fs.flatMap kH).length<=fs.length*3200:=lq kH 3200 fs (λf hx=>by have:=hcl f hx;unfold kH;have:=lq qG 16 f.code (λx _=>KQ x);omega);unfold ib;simp only[ab,gY,List.length_cons,List.length_nil];omega
def oI(ms:List az)(fs:List aS):tLB:=ib 1 ms fs++b8 (ko (pcntR fs))++prefF 0 fs
def tI(l:tLB)(s:tBA)(c n:Nat):Prop :=
 if 4000<l.length then s=⟨#[]⟩/\c=1/\n=0
 else match parseP (linesP l) false 0 []with
  |.inr k=>s=⟨#[]⟩/\c=2/\n=k
  |.inl ls=>if(firstP (ah ls) ls {} 0).1=0 then(c=0/\n=0/\∃ms fs,ms.Perm (aK (ah ls) ls).ms/\ms.Pairwise (λx y=>ji (T y.name) (T x.name)=false)/\fs.Perm (aK (ah ls) ls).fs/\fs.Pairwise (λx y=>ji (T y.name) (T x.name)=false)/\s=T (oI ms fs))
   else s=⟨#[]⟩/\c=(firstP (ah ls) ls {} 0).1/\n=(firstP (ah ls) ls {} 0).2
theorem tI.ok{l:tLB}{ls:List dN}{ms:List az}{fs:List aS}(hb:¬4000<l.length)(hp:parseP (linesP l) false 0 []=.inl ls)(h0:(firstP (ah ls) ls {} 0).1=0)(h1:ms.Perm (aK (ah ls) ls).ms)(h2:ms.Pairwise (λx y=>ji (T y.name) (T x.name)=false))(h3:fs.Perm (aK (ah ls) ls).fs)(h4:fs.Pairwise (λx y=>ji (T y.name) (T x.name)=false)):tI l (T (oI ms fs)) 0 0:=by
 unfold tI;rw[iN9 hb,hp];show if(firstP (ah ls) ls {} 0).1=0 then _ else _
 rw[iP9 h0];exact⟨rfl,rfl,ms,fs,h1,h2,h3,h4,rfl⟩
def Fu(w:tW)(l:tLB)(e:Ending)(w':tW):Prop:=∃s c n,e=.returned (.tuple #[.string s,.int .i64 (c:Nat),.int .i64 (n:Nat)])/\tI l s c n/\aa ae w w'
def Iq(t:tLB):Bool:=match bT t with
 |some x=>decide (2<=x.kind/\x.kind<=4)
 |none=>false
theorem Fv{t:tLB}(h:Iq t=true):Tg t:=by
 unfold Iq at h;cases hl:bT t with
 |none=>rw[hl]at h;cases h
 |some x=>rw[hl]at h;exact⟨x,hl,of_decide_eq_true h⟩
def Ir(t:tLB):Prop:=∃ls,¬4000<t.length/\parseP (linesP t) false 0 []=.inl ls/\(firstP (ah ls) ls {} 0).1=0/\∀u∈linesP t,Tg u
def tokB(t:tLB):Bool:=decide (t.length<=4000)&&(match parseP (linesP t) false 0 []with|.inl ls=>(firstP (ah ls) ls {} 0).1==0|.inr _=>false)&&(linesP t).all Iq
theorem aaK{t:tLB}(h:tokB t=true):Ir t:=by
 unfold tokB at h;simp only[al,decide_eq_true_eq]at h;obtain⟨⟨h1,h2⟩,h3⟩:=h;cases hp:parseP (linesP t) false 0 []with
 |inr k=>rw[hp]at h2;cases h2
 |inl ls=>rw[hp]at h2;exact⟨ls,by omega,hp,by simpa using h2,λu hu=>Fv (List.all_eq_true.1 h3 u hu)⟩
theorem zz:∀(ts:List tLB) (lH:Bool) (n:Nat) (acc ls:List dN),parseP ts lH n acc=.inl ls->(∀t∈ts,Tg t)->(∀x∈acc,2<=x.kind/\x.kind<=4)->∀x∈ls,2<=x.kind/\x.kind<=4
 |[],_,_,acc,ls,h,_,ha=>by rw[parseP]at h;injection h with h;rw[<-h];exact ha
 |t::ts,lH,n,acc,ls,h,hq,ha=>by
  obtain⟨y,hy,hk⟩:=hq t (by simp);rw[parseP,hy]at h;dsimp only at h;split at h
  ·cases h
  ·refine zz ts _ _ _ ls h (λu hu=>hq u (List.mem_cons_of_mem _ hu)) (λx hx=>?_);rcases List.mem_append.1 hx with hx|hx
   ·exact ha x hx
   ·rw[List.mem_singleton.1 hx];exact hk
theorem aaL(w:tW)(l:tLB)(hW:sV w)(hE:Env w)(hM:mE w)(hT:Ir l):Calls prog 24 #[.string (T l)] w λe w'=>Fu w l e w':=by
 have HTB:af (Calls prog 37 #[] w λe w'=>∃v bs,e=.returned v/\aH 0 w' v bs aq/\aa ae w w'):=yC w hW;have hsz:(T l).size=l.length:=rfl;obtain⟨ls,hbig,hp,h0,hq⟩:=hT;have Xl:af (∀w' v bs,aH 0 w' v bs aq->aa ae w w'->Calls prog 41 #[v,.string (T l)] w' λe w''=>ES w' bs (parseP (linesP l) false 0 []) e w''):=λw' v bs h m=>parseT_any w' w' v bs l h ax (hE.ag m) (hM.ag m) (by omega) hq ⟨ls,hp⟩;have hkk:∀x∈ls,2<=x.kind/\x.kind<=4:=zz _ _ _ _ _ hp hq (λx h=>(by cases h));obtain⟨hin,hk4,hnl⟩:=Pp hp;have hlk:∀x∈ls,LOk x:=DH _ _ _ _ _ hp (λx h=>(by cases h));have HOU:af (∀wT w' v vL bs,aH 0 wT v bs aq->aa ae wT w'->fG wT vL bs ls w'->Calls prog 42 #[vL] w' λe w''=>xz w' (ah ls) e w''):=λwT w' v vL bs hO m hL=>J9 wT wT w' v vL bs ls hO m hL hin hk4 hkk (by omega);have HFI:af (∀wT wO w' v vL vF bm lb bs,aH 0 wT v bs aq->aa ae wT w'->fG wT vL bs ls w'->dL wO bm vF lb (ah ls) w'->Calls prog 43 #[vL,.agg #[.map (some bm),vF]] w' λe w''=>uh w' (firstP (ah ls) ls {} 0) e w''):=λwT wO w' v vL vF bm lb bs hO m hL hA=>Tx wT wT wO w' v vL vF bm lb bs ls hO m hL hA hin hk4 (by omega) hkk h0;rw[hp]at Xl;have yD:=Ip hlk hin (by omega) h0 ls.length (ao _);rw[List.take_length]at yD;have HBU:af (∀wT wO w' v vL vF bm lb bs,aH 0 wT v bs aq->aa ae wT w'->fG wT vL bs ls w'->dL wO bm vF lb (ah ls) w'->Calls prog 45 #[vL,.agg #[.map (some bm),vF]] w' λe w''=>zT w' v bs (aK (ah ls) ls) e w''):=λwT wO w' v vL vF bm lb bs hO m hL hA=>Us wT wT wO w' v vL bs ls bm vF lb hO m hL hA hin hk4 (by omega) hkk;have Kz:af (∀w' v bs vM vF ms fs vs,tC w' v bs vM vF ms fs vs->ms.Perm (aK (ah ls) ls).ms->fs.Perm (aK (ah ls) ls).fs->Calls prog 44 #[.agg #[vM,vF]] w' λe w''=>e=.returned (.string (T (oI ms fs)))/\aa ae w' w''):=λw' v bs vM vF ms fs vs hP hm hf=>by obtain⟨h1,h2,h3,h4,_⟩:=yD.enc hm hf;exact Hl w' v bs vM vF ms fs vs hP h1 h2 (by omega) h4
 have HF:af (∀w' ms fs,ms.Perm (aK (ah ls) ls).ms->ms.Pairwise (λx y=>ji (T y.name) (T x.name)=false)->fs.Perm (aK (ah ls) ls).fs->fs.Pairwise (λx y=>ji (T y.name) (T x.name)=false)->aa ae w w'->Fu w l (.returned (.tuple #[.string (T (oI ms fs)),.int .i64 0,.int .i64 0])) w'):=λw' ms fs h1 h2 h3 h4 m=>⟨_,0,0,rfl,tI.ok hbig hp h0 h1 h2 h3 h4,m⟩
 clear hp hin hk4 hlk yD;generalize linesP l=ll at *;generalize T l=t at *;generalize Fu w l=RP at *;generalize firstP (ah ls) ls {} 0=fp at *;generalize aK (ah ls) ls=bb at *;obtain⟨f1,f2⟩:=fp;dsimp only at *;go_enter func24,ntmps24;go_wp2_with fail;refine HTB.o.mono ?_;rintro e w2 ⟨v,bs,rfl,hO2,m2⟩;have kD:=Xl.o w2 v bs hO2 m2;have HO2:=ai hO2;have dD:=ai m2;clear hO2 m2 Xl HTB;go_wp2_with fail;refine kD.mono ?_;rintro e w3 ⟨vL,rfl,hL3⟩;have SX:=ai hL3;clear hL3 kD;have Ph:=HOU.o w2 w3 v vL bs HO2.o SX.o.md SX.o;obtain⟨oL,cL,KM,_⟩:=SX.o.sl.view;subst KM;go_wp2_with fail;refine Ph.mono ?_;rintro e w4 ⟨bm,vF,lb,rfl,hA4⟩;have V5:=ai hA4;clear hA4 Ph;obtain⟨oF,cF,jZ,_⟩:=V5.o.sl.view;subst jZ;have iT:af (ak (w4.alloc (.cells #[.map (some bm),.slice oF (ah ls).fs.length cF] 108)) w4.heap.size #[.map (some bm),.slice oF (ah ls).fs.length cF] 108):=ak.new w4 _ _;have iC:af (aa ae w4 (w4.alloc (.cells #[.map (some bm),.slice oF (ah ls).fs.length cF] 108))):=aj;generalize hol:ah ls=ol at *;go_upto_region 7 with fail;generalize w4.alloc (.cells #[.map (some bm),.slice oF ol.fs.length cF] 108)=w5 at *;generalize w4.heap.size=X at *;have HL5:af (fG w2 (.slice oL ls.length cL) bs ls w5):=(SX.o.quiet V5.o.md).quiet iC.o;have HA5:=ai (V5.o.quiet iC.o);have x0:w5.cell? ⟨X,0,none⟩=some (.map (some bm)):=iT.o.cell 0;have x1:w5.cell? ⟨X,1,none⟩=some (.slice oF ol.fs.length cF):=iT.o.cell 1;have HC5:=HFI.o w2 w3 w5 v (.slice oL ls.length cL) (.slice oF ol.fs.length cF) bm lb bs HO2.o HL5.o.md HL5.o HA5.o;go_wp2_with fail;refine HC5.mono ?_;rintro e w6 ⟨rfl,m6⟩;have HL6:=ai (HL5.o.quiet m6);have HA6:=ai (HA5.o.quiet m6);have hB6:=iT.o.ag m6 id;have y0:w6.cell? ⟨X,0,none⟩=some (.map (some bm)):=hB6.cell 0;have y1:w6.cell? ⟨X,1,none⟩=some (.slice oF ol.fs.length cF):=hB6.cell 1;clear m6 hB6 x0 x1 HC5;have HC6:=HBU.o w2 w3 w6 v (.slice oL ls.length cL) (.slice oF ol.fs.length cF) bm lb bs HO2.o HL6.o.md HL6.o HA6.o;subst h0;go_wp2_with fail;refine HC6.mono ?_;rintro e w7 ⟨vM,vF,ms,fs,vs,rfl,hP7,p1,p2,p3,p4,m7⟩;have HC7:=Kz.o w7 v bs vM vF ms fs vs hP7 p1 p3;have HFF:af (∀w',aa ae w7 w'->RP (.returned (.tuple #[.string (T (oI ms fs)),.int .i64 0,.int .i64 0])) w'):=λw' m'=>HF.o w' ms fs p1 p2 p3 p4 (dD.o.trans (HL6.o.md.trans (m7.trans m')));clear hP7 p1 p2 p3 p4 m7 HC6;go_wp2_with fail;refine HC7.mono ?_;rintro e w8 ⟨rfl,m8⟩;have FV:=ai m8;clear m8;go_wp2_with fail;go_ret3;exact HFF.o _ FV.o
theorem Qe(w:tW)(l:tLB)(hW:sV w)(hE:Env w)(hM:mE w)(hT:Ir l):Calls prog 18 #[.string (T l)] w λe w'=>∃s c n,e=.returned (.tuple #[.string s,.int .i64 (c:Nat),.int .i64 (n:Nat)])/\tI l s c n/\aa ae w w':=by
 have H:af (Calls prog 24 #[.string (T l)] w λe w'=>∃s c n,e=.returned (.tuple #[.string s,.int .i64 (c:Nat),.int .i64 (n:Nat)])/\tI l s c n/\aa ae w w'):=aaL w l hW hE hM hT;clear hW hE hM hT;generalize T l=s0 at *;go_enter func18,ntmps18;go_wp2_with fail;refine H.o.mono ?_;rintro e w1 ⟨s,c,n,rfl,hq,m⟩;have HQ:af (tI l s c n/\aa ae w w1):=⟨hq,m⟩
 clear hq m H;go_wp2_with fail;go_ret3;exact⟨s,c,n,rfl,HQ.o.1,HQ.o.2⟩
