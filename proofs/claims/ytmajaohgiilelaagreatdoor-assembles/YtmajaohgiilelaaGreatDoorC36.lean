import Derived.Test.YtmajaohgiilelaaGreatDoorC35
namespace Go.Proofs.YtmajaohgiilelaaGreatDoor
open Go.RowKit
open Bool renaming and_eq_true->bj,true_and->ca,false_or->cb,false_eq_true->cc
open List renaming takeWhile_cons->an,dropWhile_cons->ar,drop_eq_nil_of_le->ba,all_cons->bh,cons_append->bt,append_nil->b9
open Option renaming bind_some->ao,getD_some->cd
set_option linter.all false
def Mq(c:UInt8):Bool:=decide (32<=(c.toNat:Int))&&decide ((c.toNat:Int)<=126)
def qg(l:tLB):tLB:=l.takeWhile (λc=>c != 59)
theorem uf(l:tLB):fP l=if l.all Mq then some (qg l)else none:=rfl
theorem Ep{c:UInt8}(h:aG c=true):(c != 59)=true:=by
 have:c≠59:=by rintro rfl;revert h;decide
 simpa using this
theorem aa1{c:UInt8}(h:aG c=true):Mq c=true:=by unfold aG jd di aS at h;unfold Mq;simp only[Bool.or_eq_true,bj,decide_eq_true_eq,beq_iff_eq]at h ⊢;omega
theorem Xt(l:tLB):(qg l).takeWhile aG=l.takeWhile aG/\(qg l).dropWhile aG=qg (l.dropWhile aG):=by
 unfold qg;induction l with
 |nil=>exact⟨rfl,rfl⟩
 |cons c l ih =>
  by_cases hw:aG c=true
  ·rw[an,iP9 (Ep hw),an,iP9 hw,an,iP9 hw,ar,iP9 hw,ar,iP9 hw,ih.1];exact⟨rfl,ih.2⟩
  ·rw[an (p:=aG),iN9 hw,ar (p:=aG),iN9 hw];by_cases Ga:(c != 59)=true
   ·rw[an,iP9 Ga,an,iN9 hw,ar,iN9 hw];exact⟨rfl,rfl⟩
   ·rw[an,iN9 Ga];exact⟨rfl,rfl⟩
theorem rD{c:UInt8}(r:tLB)(h:c≠59):qg (c::r)=c::qg r:=by unfold qg;rw[an,iP9 (by simpa using h)]
theorem Hd(r:tLB):((qg r).head?.map λd=>aS (d.toNat:Int))=some true↔(r.head?.map λd=>aS (d.toNat:Int))=some true:=by
 cases r with
 |nil=>rfl
 |cons d r =>
  by_cases h:d=59
  ·subst h;constructor
   ·intro e;cases e
   ·intro e;have e:some (aS ((59:UInt8).toNat:Int))=some true:=e;exact absurd e (by decide)
  ·rw[rD r h];rfl
theorem LG(c:UInt8)(r:tLB)(hc:c≠59):aid (c::qg r)=(aid (c::r)).map λx=>(x.1,qg x.2):=by
 have h1:=Xt (c::r);rw[rD r hc]at h1;have h2:=Xt r;rw[ik,ik,h1.1,h1.2,h2.1,h2.2];by_cases hs:di (c.toNat:Int)=true
 ·rw[iP9 hs,iP9 hs];rfl
 ·rw[iN9 hs,iN9 hs];by_cases hd:aS (c.toNat:Int)=true
  ·rw[iP9 hd,iP9 hd];cases aU ((c::r).takeWhile aG)<;>rfl
  ·rw[iN9 hd,iN9 hd];by_cases hm:c=45/\(r.head?.map λd=>aS (d.toNat:Int))=some true
   ·rw[iP9 ⟨hm.1,(Hd r).2 hm.2⟩,iP9 hm];cases aU (r.takeWhile aG)<;>rfl
   ·rw[iN9 (λe=>hm ⟨e.1,(Hd r).1 e.2⟩),iN9 hm];by_cases hg:mM (c.toNat:Int)=true
    ·rw[iP9 hg,iP9 hg];rfl
    ·rw[iN9 hg,iN9 hg];rfl
theorem aa2{c:UInt8}(h:mM (c.toNat:Int)=true):Mq c=true/\c≠59:=by unfold mM at h;unfold Mq;simp only[Bool.or_eq_true,bj,decide_eq_true_eq]at h ⊢;refine⟨by omega,?_⟩;rintro rfl;revert h;decide
theorem JM(l:tLB):∃pre,l=pre++l.dropWhile aG/\∀d∈pre,Mq d=true/\d≠59 :=
 ⟨l.takeWhile aG,(List.takeWhile_append_dropWhile).symm,λd hd=>⟨aa1 (PH hd),by simpa using Ep (PH hd)⟩⟩
theorem LH(c:UInt8)(r:tLB)(tk:aY)(rest:tLB)(h:aid (c::r)=some (tk,rest)):∃pre,c::r=pre++rest/\∀d∈pre,Mq d=true/\d≠59:=by
 rw[ik]at h;split at h
 ·cases h;exact JM (c::r)
 ·split at h
  ·obtain⟨v,_,hv⟩:=Option.map_eq_some_iff.1 h;cases hv;exact JM (c::r)
  ·split at h
   ·rename_i hm
    obtain⟨v,_,hv⟩:=Option.map_eq_some_iff.1 h;cases hv;obtain⟨pre,h1,h2⟩:=JM r;refine⟨c::pre,by rw[bt,<-h1],λd hd=>?_⟩;rcases List.mem_cons.1 hd with rfl|hd
    ·rw[hm.1];decide
    ·exact h2 d hd
   ·split at h
    ·rename_i hg
     cases h;exact⟨[c],rfl,λd hd=>by rw[List.mem_singleton.1 hd];exact aa2 hg⟩
    ·cases h
theorem QO:∀(pre rest:tLB),(∀d∈pre,Mq d=true/\d≠59)->qg (pre++rest)=pre++qg rest/\(pre++rest).all Mq=rest.all Mq
 |[],_,_=>⟨rfl,rfl⟩
 |c::pre,rest,h=>by
  obtain⟨h1,h2⟩:=QO pre rest (λd hd=>h d (by simp[hd]));have hc:=h c (by simp);refine⟨?_,?_⟩
  ·rw[bt,rD _ hc.2,h1];rfl
  ·rw[bt,bh,hc.1,h2];rfl
theorem He{c:UInt8}(r:tLB)(h:c≠32):aw (c::r)=c::r:=by unfold aw;rw[ar,iN9 (by simpa using h)]
theorem aa3(c:UInt8)(r:tLB)(Ga:c≠59)(h32:c≠32):(fP (c::r)).bind jP=(aid (c::r)).bind λx=>((fP x.2).bind jP).map (x.1::·):=by
 cases ht:aid (c::r)with
 |none =>
  rw[uf];split
  ·have:=LG c r Ga;rw[ht]at this;simp only[ao,Option.bind_none];rw[rD r Ga,lC (He _ h32),this];rfl
  ·rfl
 |some x =>
  obtain⟨tk,rest⟩:=x;obtain⟨pre,h1,h2⟩:=LH c r tk rest ht;obtain⟨e1,e2⟩:=QO pre rest h2;have:=LG c r Ga;rw[ht]at this;simp only[ao];rw[uf,uf,h1,e2,<-h1,rD r Ga];split
  ·simp only[ao];rw[lC (He _ h32),this];rfl
  ·rfl
theorem JN(c:UInt8):((c.toNat:Int)<32\/126<(c.toNat:Int)) ↔ ¬Mq c=true:=by unfold Mq;simp only[bj,decide_eq_true_eq];omega
theorem LJ(t:tLB):∀(f i:Nat) (acc:List aY),t.length-i<=f->ahP (T t) f i true acc=if(t.drop i).all Mq then some acc else none
 |0,i,acc,h=>by rw[ba (by omega)];rfl
 |f+1,i,acc,h=>by
  rw[ahP];by_cases hi:i<t.length
  ·rw[dif_pos (show i<(T t).size from hi),bX hi,bh];show(if(t[i].toNat:Int)<32\/126<(t[i].toNat:Int)then none else _)=_
   by_cases ho:Mq t[i]=true
   ·rw[iN9 (λe=>(JN _).1 e ho),ho];simp only[Bool.true_or,if_true,ca];exact LJ t f (i+1) acc (by omega)
   ·rw[iP9 ((JN _).2 ho)];simp[ho]
  ·rw[dif_neg (show ¬i<(T t).size from hi),ba (by omega)];rfl
theorem aik(t:tLB):∀(f i:Nat) (acc:List aY),t.length-i<=f->ahP (T t) f i false acc=((fP (t.drop i)).bind jP).map (acc++·)
 |0,i,acc,h=>by
  rw[ba (by omega)];show some acc=some (acc++[])
  rw[b9]
 |f+1,i,acc,h=>by
  rw[ahP];by_cases hi:i<t.length
  ·rw[dif_pos (show i<(T t).size from hi)];show(if(t[i].toNat:Int)<32\/126<(t[i].toNat:Int)then none else if(false||decide ((t[i].toNat:Int)=59)||decide ((t[i].toNat:Int)=32))=true then ahP (T t) f (i+1) (false||decide ((t[i].toNat:Int)=59)) acc else(match ji (T t) i (t[i].toNat:Int)with|none=>none|some (tk,j)=>ahP (T t) f j false (acc++[tk])))=_
   have hl:=bX hi;by_cases ho:Mq t[i]=true
   ·rw[iN9 (λe=>(JN _).1 e ho)];by_cases Ga:t[i]=59
    ·rw[hl,Ga];simp only[show decide (((59:UInt8).toNat:Int)=59)=true by decide,cb,Bool.true_or,if_true];rw[LJ t f (i+1) acc (by omega),uf,bh,show Mq 59=true by decide,ca];split
     ·show some acc=some (acc++[])
      rw[b9]
     ·rfl
    ·have n59:decide ((t[i].toNat:Int)=59)=false:=decide_eq_false (λe=>Ga (UInt8.toNat_inj.1 (by show t[i].toNat=59;omega)));by_cases h32:t[i]=32
     ·have n32:decide ((t[i].toNat:Int)=32)=true:=by rw[h32];rfl
      simp only[n59,n32,cb,if_true];rw[aik t f (i+1) acc (by omega),hl,uf,uf,bh,ho,ca,rD _ Ga];split
      ·simp only[ao];congr 1;rw[<-Ac (t[i]::_),<-Ac (qg _),h32];rfl
      ·rfl
     ·have n32:decide ((t[i].toNat:Int)=32)=false:=decide_eq_false (λe=>h32 (UInt8.toNat_inj.1 (by show t[i].toNat=32;omega)));simp only[n59,n32,cb,cc,if_false];rw[Xr t i t[i] _ hl,hl,aa3 _ _ Ga h32];cases ht:aid (t[i]::t.drop (i+1))with
      |none=>rfl
      |some x =>
       obtain⟨tk,rest⟩:=x;obtain⟨pre,h1,h2⟩:=LH _ _ tk rest ht;have hlt:=Ec _ _ tk rest ht
       have hd:t.drop (t.length-rest.length)=rest:=by
        have ht:t=t.take i++(pre++rest):=by rw[<-h1,<-hl,List.take_append_drop]
        have key:∀u a:tLB,u=a++rest->u.drop (u.length-rest.length)=rest:=by rintro _ a rfl;rw[List.length_append,Nat.add_sub_cancel,List.drop_left]
        exact key t (t.take i++pre) (by rw[List.append_assoc];exact ht)
       simp only[Option.map_some,ao];have hl2:(t.drop (i+1)).length=t.length-(i+1):=List.length_drop;rw[aik t f (t.length-rest.length) _ (by omega),hd];cases(fP rest).bind jP with
       |none=>rfl
       |some ts=>simp
   ·rw[iP9 ((JN _).2 ho),hl,uf,bh];simp[ho]
  ·rw[dif_neg (show ¬i<(T t).size from hi),ba (by omega)];show some acc=some (acc++[])
   rw[b9]
theorem PM(t:tLB):ahP (T t) (T t).size 0 false []=(fP t).bind jP:=by
 rw[aik t _ 0 [] (by rw[wN];exact Nat.sub_le _ _)];cases h:(fP (t.drop 0)).bind jP with
 |none=>rw[List.drop_zero]at h;rw[h];rfl
 |some ts=>rw[List.drop_zero]at h;rw[h];rfl
theorem Xu:Bl.all lead=true:=by decide +kernel
theorem Xv:Bl.all (λw=>decide (aD (T w)≠0))=true:=by decide +kernel
theorem Xw:Bl.all (λw=>decide (mQ w≠[]))=true:=by
 rw[List.all_eq_true];intro w hw;obtain⟨⟨w',f,k1,k2⟩,_,rfl,hB⟩:=LB hw;unfold aiB at hB;dsimp only at hB ⊢;split at hB<;>simp only[bj,decide_eq_true_eq,cc]at hB
 ·rw[hB.1.1.1.1.1];simp
 ·rw[hB.1.1.1.1];simp
 ·rw[hB.1.1.1];simp
 ·rw[hB.1.1.1.1];simp
 ·rw[hB.1.1];simp
 ·rw[hB.1.1.1];simp
 ·rw[hB.1.1];simp
 ·rw[hB.1.1];simp
 ·rw[hB.1.1];simp
 ·rw[hB.1.1];simp
theorem Cg(w:tLB):gj w=true↔mQ w≠[]:=by
 unfold gj mQ;rw[List.any_eq_true];constructor
 ·rintro⟨o,ho,hc⟩ hn;rw[List.filter_eq_nil_iff]at hn;obtain⟨k,hk,he⟩:=List.getElem_of_mem ho;have hlen:ax.length=88:=by decide
  refine hn k (by rw[List.mem_range];omega) ?_;rw[List.getElem?_eq_getElem hk,cd,he];exact hc
 ·intro hn;obtain⟨k,hk⟩:=List.exists_mem_of_ne_nil _ hn;rw[List.mem_filter,List.mem_range]at hk;have hlen:ax.length=88:=by decide
  have hk':k<ax.length:=by omega
  rw[List.getElem?_eq_getElem hk',cd]at hk;exact⟨_,List.getElem_mem hk',hk.2⟩
theorem LK(w:tLB):gj w=decide (aD (T w)≠0):=by
 by_cases hw:w∈Bl
 ·have h1:=List.all_eq_true.1 Xv w hw;have h2:=List.all_eq_true.1 Xw w hw;rw[h1];exact(Cg w).2 (of_decide_eq_true h2)
 ·have h1:=G9 hw;have h2:=Bn hw;cases hb:gj w with
  |false=>rw[h1];rfl
  |true=>exact absurd h2 ((Cg w).1 hb)
theorem PN:FUNC=T [102,117,110,99]:=by decide +kernel
theorem abw(w u:tLB):decide (T w=T u)=(w==u):=by rw[Bool.eq_iff_iff,decide_eq_true_eq,beq_iff_eq];exact mf
theorem Xx(w:tLB):qp (T w)=eu w:=by
 unfold qp eu;rw[<-LK,GZ,PN,abw,abw,JE];cases bC w with
 |none=>cases gj w<;>cases(w==[109,97,112])<;>cases(w==[102,117,110,99])<;>rfl
 |some k =>
  have h:decide (0<=(k:Int))=true:=decide_eq_true (Int.natCast_nonneg k);show(gj w||w==[109,97,112]||w==[102,117,110,99]||decide (0<=(k:Int)))=_
  rw[h];cases gj w<;>cases(w==[109,97,112])<;>cases(w==[102,117,110,99])<;>rfl
structure Ch(x:bV)(r:qN):Prop where
 ok:r.ok=true
 kd:(x.kind=0/\r.x.kind=0)\/(x.kind=1/\r.x.kind=109/\r.x.name=T x.name/\r.ns=x.ns/\x.ns.length=3/\ahI x.name=true)\/(x.kind=2/\r.x.kind=102/\r.x.name=T x.name/\ahI x.name=true)\/(x.kind=3/\r.x.kind=58/\r.x.name=T x.name/\ahI x.name=true)\/(x.kind=4/\mh x.x r.x)
theorem TH{l:tLB}(hm:aH 58 l=false){t:aY}{ts:List aY}(h:jP l=some (t::ts)):t.kind≠58:=by
 rcases mF h with⟨_,_,_,e⟩ |⟨n,r',_,_,_,e⟩ |⟨c,hc,hcm,e,_⟩
 ·rw[e];decide
 ·rw[e];decide
 ·rw[e];intro hk;have:c=58:=UInt8.toNat_inj.1 hk;subst this;rw[hm]at hcm;cases hcm
theorem Xy{l:tLB}(hl:lead (aC l).1=false){t:aY}{ts:List aY}(h:jP l=some (t::ts)):t.kind≠110:=by
 rcases mF h with⟨e,_⟩ |⟨n,r',_,_,_,e⟩ |⟨c,hc,hcm,e,_⟩
 ·rw[hl]at e;cases e
 ·rw[e];decide
 ·rw[e];rcases hc with rfl|rfl|rfl|rfl|rfl|rfl<;>decide
theorem PO(t:aY)(ts:List aY)(h:t.kind≠110):(jK (t::ts)).ok=false:=by
 unfold jK;rw[iR t ts false 110 h];dsimp only;have h1:nS.s≠MAP:=by decide +kernel
 have h2:nS.s≠FUNC:=by decide +kernel
 have h3:aD nS.s=0:=by decide +kernel
 split
 ·rfl
 ·first|rw[iN9 h1,iN9 h2]|skip
  unfold DK.ins;rw[h3];rfl
theorem iK{p:DK}(h:p.bad=true):p.done=false:=by unfold DK.done;rw[h];rfl
theorem TI(t:aY)(ts:List aY)(b:Bool):(DK.mk (t::ts) b).done=false:=by unfold DK.done;simp
theorem aa4(t:aY)(ts:List aY)(word:tBA)(h1:t.kind≠110)(h2:t.kind≠91):((DK.mk (t::ts) false).ins {kind:=105} word).1.done=false:=by
 have hr:(DK.mk (t::ts) false).fF.2.bad=true:=fZ _ _ (by rw[iR t ts false 110 h1]);have hn:(DK.mk (t::ts) false).name.2.bad=true:=fZ _ _ (by rw[iR t ts false 110 h1]);have hb:∀x,((DK.mk (t::ts) false).brackets x).2.1.bad=true:=λx=>cU _ 93 (wJ _ _ (Ad _ (by rw[iR t ts false 91 h2])));unfold DK.ins;split
 ·unfold DK.qt;split
  ·exact iK hr
  ·exact iK (rA _ _ hr)
 ·split
  ·unfold DK.Fa;split
   ·exact iK hn
   ·exact iK (ru _ (cU _ 44 (rA _ _ hr)))
  ·split
   ·exact iK (JF _ _ (cU _ 44 hr))
   ·split
    ·exact iK (rA _ _ (hb _))
    ·split
     ·exact iK (Bj _ _ (cU _ 44 hr))
     ·split
      ·exact iK (fZ _ _ hn)
      ·split
       ·exact iK hn
       ·split
        ·exact TI t ts false
        ·exact iK rfl
def aa5:PP (tLB×aA×aA×aA):=λl=>(dB l).bind λa=>(bJ a.2).bind λb=>(bJ b.2).bind λc=>(bJ c.2).bind λd=>some ((a.1,b.1,c.1,d.1),d.2)
def mpG(p:DK):(tBA×aA×aA×aA)×DK :=
 ((p.name.1,(p.name.2.take 100).1.n,((p.name.2.take 100).2.take 100).1.n,(((p.name.2.take 100).2.take 100).2.take 100).1.n),(((p.name.2.take 100).2.take 100).2.take 100).2)
theorem Xz:dJ aa5:=dJ.bind (f':=λa l=>(bJ l).bind λb=>(bJ b.2).bind λc=>(bJ c.2).bind λd=>some ((a,b.1,c.1,d.1),d.2)) ma (λa=>dJ.bind (f':=λb l=>(bJ l).bind λc=>(bJ c.2).bind λd=>some ((a,b,c.1,d.1),d.2)) rz (λb=>dJ.bind (f':=λc l=>(bJ l).bind λd=>some ((a,b,c,d.1),d.2)) rz (λc=>rz.last (λd=>(a,b,c,d)))))
theorem XA:dE aa5 mpG (λv y=>y.1=T v.1/\ahI v.1=true/\y.2=v.2):=by
 have h3:∀(a:tLB) (a':tBA),(a'=T a/\ahI a=true)->∀(b b':aA),b'=b->∀(c c':aA),c'=c->dE (λl=>(bJ l).bind λd=>some ((a,b,c,d.1),d.2)) (λp=>((a',b',c',(takeN p).1),(takeN p).2)) (λv y=>y.1=T v.1/\ahI v.1=true/\y.2=v.2):=by rintro a _ ⟨rfl,ha⟩ _ b rfl _ c rfl;refine((wI.last (λd=>(a,b,c,d))).Ca (λd=>(T a,b,c,d))).mono ?_;rintro _ _ ⟨d,rfl,d',rfl,rfl⟩;exact⟨rfl,ha,rfl⟩
 have h2:∀(a:tLB) (a':tBA),(a'=T a/\ahI a=true)->∀(b b':aA),b'=b->dE (λl=>(bJ l).bind λc=>(bJ c.2).bind λd=>some ((a,b,c.1,d.1),d.2)) (λp=>((a',b',(takeN p).1,(takeN (takeN p).2).1),(takeN (takeN p).2).2)) (λv y=>y.1=T v.1/\ahI v.1=true/\y.2=v.2):=λa a' ha b b' hb =>
  dE.bind (f':=λc l=>(bJ l).bind λd=>some ((a,b,c,d.1),d.2)) (g':=λc' p=>((a',b',c',(takeN p).1),(takeN p).2)) wI (h3 a a' ha b b' hb) (λ_ p h=>iF p h)
 have h1:∀(a:tLB) (a':tBA),(a'=T a/\ahI a=true)->dE (λl=>(bJ l).bind λb=>(bJ b.2).bind λc=>(bJ c.2).bind λd=>some ((a,b.1,c.1,d.1),d.2)) (λp=>((a',(takeN p).1,(takeN (takeN p).2).1,(takeN (takeN (takeN p).2).2).1),(takeN (takeN (takeN p).2).2).2)) (λv y=>y.1=T v.1/\ahI v.1=true/\y.2=v.2):=λa a' ha =>
  dE.bind (f':=λb l=>(bJ l).bind λc=>(bJ c.2).bind λd=>some ((a,b,c.1,d.1),d.2)) (g':=λb' p=>((a',b',(takeN p).1,(takeN (takeN p).2).1),(takeN (takeN p).2).2)) wI (h2 a a' ha) (λ_ p h=>iF _ (iF p h))
 exact dE.bind (f':=λa l=>(bJ l).bind λb=>(bJ b.2).bind λc=>(bJ c.2).bind λd=>some ((a,b.1,c.1,d.1),d.2)) (g':=λa' p=>((a',(takeN p).1,(takeN (takeN p).2).1,(takeN (takeN (takeN p).2).2).1),(takeN (takeN (takeN p).2).2).2)) jY h1 (λ_ p h=>iF _ (iF _ (iF p h)))
theorem XB(l:tLB):fH l=(whole (aa5 l)).map λv=>{kind:=1,name:=v.1,ns:=[v.2.1,v.2.2.1,v.2.2.2]}:=by
 unfold fH aa5 dB;by_cases hn:ahI (aC l).1=true
 ·rw[iP9 hn,iP9 hn];simp only[bs];cases bJ (aC l).2 with
  |none=>rfl
  |some a =>
   simp only[bs];cases bJ a.2 with
   |none=>rfl
   |some b =>
    simp only[bs];cases bJ b.2 with
    |none=>rfl
    |some c =>
     simp only[bs,whole];by_cases hs:aw c.2=[]
     ·rw[iP9 hs,iP9 hs];rfl
     ·rw[iN9 hs,iN9 hs];rfl
 ·rw[iN9 hn,iN9 hn];rfl
theorem Er{α:Type}{f:PP α}{l:tLB}{v:α}(h:whole (f l)=some v):∃l',f l=some (v,l')/\aw l'=[]:=by
 obtain⟨⟨v',l'⟩,h1,h2⟩:=Option.bind_eq_some_iff.1 h;split at h2
 ·rename_i hd
  cases h2;exact⟨l',h1,hd⟩
 ·cases h2
theorem Es{α:Type}{f:PP α}{l:tLB}(h:whole (f l)=none):∀a l',f l=some (a,l')->aw l'≠[]:=λa l' ha hd=>by
 unfold whole at h;rw[ha]at h;simp only[ao,iP9 hd]at h;cases h
theorem qh{t:tLB}(h:(fP t).bind jP=none):(ahO (T t)).ok=false:=by unfold ahO;rw[PM,h]
theorem vT{t:tLB}{a:aY}{ts:List aY}(h:(fP t).bind jP=some (a::ts)):ahO (T t)=jK (a::ts):=by unfold ahO;rw[PM,h]
theorem Hf(w:tLB)(ts:List aY):(DK.mk (iA w::ts) false).take 110=(iA w,⟨ts,false⟩):=jx (iA w) ts false
theorem jA(w:tLB)(ts:List aY)(h:∀t r,ts=t::r->t.kind=58->r≠[]):jK (iA w::ts) = (if T w=MAP then(⟨{kind:=109,name:=(mpG ⟨ts,false⟩).1.1},[(mpG ⟨ts,false⟩).1.2.1,(mpG ⟨ts,false⟩).1.2.2.1,(mpG ⟨ts,false⟩).1.2.2.2],(mpG ⟨ts,false⟩).2.done⟩:qN)
   else if T w=FUNC then⟨{kind:=102,name:=(DK.mk ts false).name.1},[],(DK.mk ts false).name.2.done⟩
   else⟨((DK.mk ts false).ins {kind:=105} (T w)).2,[],((DK.mk ts false).ins {kind:=105} (T w)).1.done⟩):=by
 unfold jK;rw[Hf];dsimp only
 have hn:¬((iA w::ts).length=2/\((iA w::ts).getD 1 nS).kind=58):=by
  rintro⟨h1,h2⟩;cases ts with
  |nil=>cases h1
  |cons t r =>
   have hr:r=[]:=by simp only[List.length_cons]at h1;exact List.length_eq_zero_iff.1 (by omega)
   exact h t r rfl h2 hr
 rw[iN9 hn];rfl
theorem yG(t:tLB):(∀x,bY t=some x->Ch x (ahO (T t)))/\(bY t=none->(ahO (T t)).ok=false):=by
 unfold bY;cases hl:fP t with
 |none =>refine⟨λx h=>(by cases h),λ_=>qh (by rw[hl];rfl)⟩
 |some l =>
  simp only[ao];by_cases hs:aw l=[]
  ·rw[iP9 hs];refine⟨λx h=>?_,λh=>by cases h⟩;injection h with h;subst h;have:ahO (T t)=⟨{},[],true⟩:=by unfold ahO;rw[PM,hl];simp only[ao];rw[vH hs]
   rw[this];exact⟨rfl,.inl ⟨rfl,rfl⟩⟩
  rw[iN9 hs];have hP:(fP t).bind jP=jP l:=by rw[hl];rfl
  have hne:jP l≠some []:=λe=>hs (JC.1 e);cases hw:lead (aC l).1 with
  |false =>
   have hbad:(ahO (T t)).ok=false:=by
    cases ht:jP l with
    |none=>exact qh (hP.trans ht)
    |some ts =>
     cases ts with
     |nil=>exact absurd ht hne
     |cons a ts =>rw[vT (hP.trans ht)];exact PO a ts (Xy hw ht)
   refine⟨λx h=>?_,λ_=>hbad⟩;exfalso;split at h
   ·split at h
    ·rename_i hc
     have:=wE hc.2.1;rw[hw]at this;cases this
    ·cases h
   ·split at h
    ·rename_i hc;rw[hc]at hw;cases hw
    ·split at h
     ·rename_i hc;rw[hc]at hw;cases hw
     ·obtain⟨y,hy,_⟩:=Option.map_eq_some_iff.1 h;rw[yD,Bn (λhm=>by have:=List.all_eq_true.1 Xu _ hm;rw[hw]at this;cases this)]at hy;cases hy
  |true =>
   have hT:=nW hw;generalize hwd:(aC l).1=w at *;generalize hl2:(aC l).2=l2 at *;have hT':(fP t).bind jP=(jP l2).map (iA w::·):=hP.trans hT;by_cases hm:aH 58 l2=true
   ·rw[iP9 hm];have h2:=wF 58 (by simp) hm;cases h3:jP (aL 58 l2)with
    |none =>
     rw[h3]at h2;have hbad:(ahO (T t)).ok=false:=qh (by rw[hT',h2];rfl);refine⟨λx h=>?_,λ_=>hbad⟩;split at h
     ·rename_i hc
      rw[vH hc.1]at h3;cases h3
     ·cases h
    |some ts =>
     rw[h3]at h2;have hp:ahO (T t)=jK (iA w::Gb 58::ts):=vT (by rw[hT',h2];rfl);cases ts with
     |nil =>
      have hd:=JC.1 h3;have hpl:jK [iA w,Gb 58]=⟨{kind:=58,name:=T w},[],ahI w&&!qp (T w)⟩:=by unfold jK;rw[Hf];dsimp only;rw[iP9 ⟨rfl,rfl⟩];have e:(iA w).s.data.toList=w:=BT w;rw[e];rfl
      rw[hp,hpl,Xx];refine⟨λx h=>?_,λh=>?_⟩
      ·split at h
       ·rename_i hc
        injection h with h;subst h;refine⟨?_,.inr (.inr (.inr (.inl ⟨rfl,rfl,rfl,hc.2.1⟩)))⟩;show(ahI w&&!eu w)=true
        rw[hc.2.1,hc.2.2];rfl
       ·cases h
      ·split at h
       ·cases h
       ·rename_i hc
        show(ahI w&&!eu w)=false
        cases h1:ahI w with
        |false=>rfl
        |true =>
         cases h2:eu w with
         |true=>rfl
         |false=>exact absurd ⟨hd,h1,h2⟩ hc
     |cons a ts =>
      have hnd:aw (aL 58 l2)≠[]:=λe=>by rw[vH e]at h3;cases h3
      rw[iN9 (λc=>hnd c.1)];refine⟨λx h=>(by cases h),λ_=>?_⟩;rw[hp,jA w (Gb 58::a::ts) (λt r e _=>by cases e;simp)];have abx:(DK.mk (Gb 58::a::ts) false).name.2.bad=true:=fZ _ _ (by rw[iR _ _ _ 110 (by decide)]);split
      ·exact iK (iF _ (iF _ (iF _ abx)))
      ·split
       ·exact iK abx
       ·exact aa4 _ _ _ (by decide) (by decide)
   ·rw[iN9 hm];have hm':aH 58 l2=false:=by simpa using hm
    have hsk:jP (aw l2)=jP l2:=Ac l2;have hPT:∀ts,jP l2=some ts->ahO (T t)=jK (iA w::ts)/\(∀a r,ts=a::r->a.kind=58->r≠[]):=λts h=>⟨vT (by rw[hT',h];rfl),λa r e uK=>by subst e;exact absurd uK (TH hm' h)⟩
    have hPN:jP l2=none->(ahO (T t)).ok=false:=λh=>qh (by rw[hT',h];rfl);by_cases hmap:w=[109,97,112]
    ·rw[iP9 hmap,XB];have PQ:T w=MAP:=by rw[hmap,GZ]
     refine⟨λx h=>?_,λh=>?_⟩
     ·obtain⟨v,hv,rfl⟩:=Option.map_eq_some_iff.1 h;obtain⟨l',k1,k2⟩:=Er hv;obtain⟨ts,k3,k4,k5⟩:=XA.whole Xz _ v l' k1 k2;obtain⟨e1,e2⟩:=hPT ts (hsk.symm.trans k3);rw[e1,jA w ts e2,iP9 PQ];refine⟨k4,.inr (.inl ⟨rfl,rfl,k5.1,?_,rfl,k5.2.1⟩)⟩;show [_,_,_]=[_,_,_]
      rw[k5.2.2]
     ·cases ht:jP l2 with
      |none=>exact hPN ht
      |some ts =>obtain⟨e1,e2⟩:=hPT ts ht;rw[e1,jA w ts e2,iP9 PQ];exact XA.refused _ (Es (map_none h)) ts (hsk.trans ht)
    ·rw[iN9 hmap];have PQ:¬T w=MAP:=λe=>hmap (mf.1 (by rw[<-GZ];exact e));by_cases hfun:w=[102,117,110,99]
     ·rw[iP9 hfun];have XC:T w=FUNC:=by rw[hfun,PN]
      have hf:∀x:bV,(if ahI (aC (aw l2)).1=true/\aw (aC (aw l2)).2=[]then some ({kind:=2,name:=(aC (aw l2)).1}:bV)else none)=(whole (dB (aw l2))).map λn=>{kind:=2,name:=n}:=λ_=>by
       unfold dB;by_cases h1:ahI (aC (aw l2)).1=true
       ·rw[iP9 h1];simp only[whole,bs];by_cases h2:aw (aC (aw l2)).2=[]
        ·rw[iP9 ⟨h1,h2⟩,iP9 h2];rfl
        ·rw[iN9 (λc=>h2 c.2),iN9 h2];rfl
       ·rw[iN9 (λc=>h1 c.1),iN9 h1];rfl
      rw[hf {}];refine⟨λx h=>?_,λh=>?_⟩
      ·obtain⟨v,hv,rfl⟩:=Option.map_eq_some_iff.1 h;obtain⟨l',k1,k2⟩:=Er hv;obtain⟨ts,k3,k4,k5⟩:=jY.whole ma _ v l' k1 k2;obtain⟨e1,e2⟩:=hPT ts (hsk.symm.trans k3);rw[e1,jA w ts e2,iN9 PQ,iP9 XC];exact⟨k4,.inr (.inr (.inl ⟨rfl,rfl,k5.1,k5.2⟩))⟩
      ·cases ht:jP l2 with
       |none=>exact hPN ht
       |some ts =>obtain⟨e1,e2⟩:=hPT ts ht;rw[e1,jA w ts e2,iN9 PQ,iP9 XC];exact jY.refused _ (Es (map_none h)) ts (hsk.trans ht)
     ·rw[iN9 hfun];have XC:¬T w=FUNC:=λe=>hfun (mf.1 (by rw[<-PN];exact e));obtain⟨hA,hN⟩:=TD w (aw l2);refine⟨λx h=>?_,λh=>?_⟩
      ·obtain⟨v,hv,rfl⟩:=Option.map_eq_some_iff.1 h;obtain⟨ts,k3,k4,k5⟩:=hA v hv;obtain⟨e1,e2⟩:=hPT ts (hsk.symm.trans k3);rw[e1,jA w ts e2,iN9 PQ,iN9 XC];exact⟨k4,.inr (.inr (.inr (.inr ⟨rfl,k5⟩)))⟩
      ·cases ht:jP l2 with
       |none=>exact hPN ht
       |some ts =>obtain⟨e1,e2⟩:=hPT ts ht;rw[e1,jA w ts e2,iN9 PQ,iN9 XC];exact hN (map_none h) ts (hsk.trans ht)
