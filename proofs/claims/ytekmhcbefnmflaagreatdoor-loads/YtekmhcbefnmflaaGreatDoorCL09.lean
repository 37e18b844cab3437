import Derived.Test.YtekmhcbefnmflaaGreatDoorCL07
import Derived.Test.YtekmhcbefnmflaaGreatDoorCL03
namespace Go.Proofs.YtekmhcbefnmflaaGreatDoor
open Go.RowKit Tryz
open _root_.Array renaming toList_extract->cy
open Lib renaming itoa->cD
open List renaming dropWhile_cons->ab,take_succ_cons->ao,drop_succ_cons->ar,extract_eq_take_drop->bh,drop_length->bt,isPrefixOf->b5,take_of_length_le->b9,dropWhile_sublist->cj,take_zero->cw,drop_zero->cx,takeWhile_cons->cG,take_length->cQ,length->ee
open Nat renaming mod_eq_of_lt->an,zero_le->cb,lt_or_ge->cH,le_of_eq->cI
open Option renaming not_isSome->cN,some->eC,none->ez
open Bool renaming true->eJ,false->eE
open Decidable renaming decide->eS
open Ending renaming returned->fR
open Obj renaming cells->eR
open Value renaming bool->fS,string->eI,pointer->ia,tuple->gb,agg->fW
open _root_.Go renaming Calls->fL,maxLen->fX,TypeId->gh,Value->eM,bodyPost_ret->iz,wpQuiet_nil->lz
set_option linter.all false
set_option maxRecDepth 100000
set_option maxHeartbeats 2000000
theorem zG(l:tLB)(n:Nat):(T l).extract 0 n=T (l.take n):=by
 have:((T l).extract 0 n).data.toList=l.take n:=by rw[ByteArray.data_extract,cy,bh];simp[T]
 rw[<-this];rfl
theorem nr(l:tLB)(n:Nat):(T l).extract n (T l).size=T (l.drop n):=by
 have:((T l).extract n (T l).size).data.toList=l.drop n:=by
  rw[ByteArray.data_extract,cy,bh];rw[bS];show(l.drop n).take (ee l-n)=l.drop n
  exact b9 (by simp)
 rw[<-this];rfl
theorem lh:(T []).toList.isEmpty=eJ:=lL rfl
theorem iX(b:UInt8)(l:tLB):(T (b::l)).toList.isEmpty=eE:=mY (by rw[bS];simp)
theorem qJ(c:Int)(w:tW):fL prog 187 #[vB c] w λe w'=>e=fR (fS (kK c))/\w'=w:=by
 by_cases h1:97<=c
 ·go_in;go_wp2;go_ret;exact⟨by simp[kK,h1],rfl⟩
 ·go_in;go_wp2;go_ret;exact⟨by simp[kK];omega,rfl⟩
theorem nu(c:Int)(w:tW):fL prog 291 #[vB c] w λe w'=>e=fR (fS (kL c))/\w'=w:=by
 by_cases h1:48<=c
 ·go_in;go_wp2;go_ret;exact⟨by simp[kL,h1],rfl⟩
 ·go_in;go_wp2;go_ret;exact⟨by simp[kL];omega,rfl⟩
theorem l9(c:Int)(w:tW):fL prog 186 #[vB c] w λe w'=>e=fR (fS (pR c))/\w'=w:=by
 cases hd:kL c<;>cases hs:kK c
 all_goals
  go_in;go_wp2_with (first |(go_at_call 291;refine(nu _ _).mono ?_;rintro e w' ⟨rfl,rfl⟩) |(go_at_call 187;refine(qJ _ _).mono ?_;rintro e w' ⟨rfl,rfl⟩));go_ret;exact⟨by simp[pR,hd,hs],rfl⟩
theorem tZ(s:tBA)(w:tW)(hs:s.size<=fX):fL prog 105 #[eI s] w λe w'=>e=fR (fS (nameB s.data.toList))/\w'=w:=by
 unfold fX at hs;by_cases h0:0<s.size
 ·have he:=mY h0;have HN:af (_=_):=Ij h0;by_cases h1:s.size<=16
  ·have hb:((s.size:Int)<=16):=by omega
   cases h2:kK (s[0].toNat:Int)with
   |false =>go_in;go_wp2_with (go_at_call 187;refine(qJ _ _).mono ?_;rintro e w' ⟨rfl,rfl⟩);go_ret;exact⟨jy (by rw[HN.o,h2];simp),rfl⟩
   |true =>
    go_in;go_wp2_with (go_at_call 187;refine(qJ _ _).mono ?_;rintro e w' ⟨rfl,rfl⟩);go_loop [19] (λi=>∃k:Nat,k<=s.size/\i=vI k/\(s.data.toList.take k).all (λc=>pR (c.toNat:Int))=eJ) (λi=>s.size-(intOf i).toNat)
    case atStart=>exact⟨0,cb _,rfl,rfl⟩
    case round =>
     obtain⟨k,hk,rfl,hall⟩:=hrel;have HA:=ai hall;clear hall;by_cases hlt:k<s.size
     ·cases hp:pR (s[k].toNat:Int)with
      |false =>go_wp2_with (go_at_call 186;refine(l9 _ _).mono ?_;rintro e w' ⟨rfl,rfl⟩);go_ret;exact⟨jy (by rw[HN.o,BP hlt hp];simp),rfl⟩
      |true =>
       go_wp2_with (go_at_call 186;refine(l9 _ _).mono ?_;rintro e w' ⟨rfl,rfl⟩);go_round
       case rel=>exact⟨k+1,by omega,by go_num,by rw[Ex s k hlt];simp[HA.o,hp]⟩
       case measure=>simp[intOf];omega
     ·go_wp2;go_ret;have ht:s.data.toList.take k=s.data.toList:=b9 (by simp;omega);exact⟨jy (by rw[HN.o,h2,<-ht,HA.o];simp[h1]),rfl⟩
  ·have hb:¬((s.size:Int)<=16):=by omega
   go_in;go_wp2_with (go_at_call 187;refine(qJ _ _).mono ?_;rintro e w' ⟨rfl,rfl⟩);go_ret;exact⟨jy (by rw[HN.o];simp[h1]),rfl⟩
 ·have he:=lL (s:=s) (by omega);have hz:af (_=_):=BO (s:=s) (by omega);go_in;go_wp2;go_ret;exact⟨jy hz.o.symm,rfl⟩
structure lN(w:tW)(b o:Nat)(cs:tAV)(t:gh)(l:tLB):Prop where
 blk:ak w b cs t
 at':cs[o]?=eC (eI (T l))
theorem lN.set{w:tW}{b o:Nat}{cs:tAV}{t:gh}{l:tLB}(h:lN w b o cs t l)(l':tLB):lN (w.setCell ⟨b,o,ez⟩ (eI (T l'))) b o (cs.setIfInBounds o (eI (T l'))) t l' :=
 ⟨h.blk.set o _,by
  have :=(Array.getElem?_eq_some_iff.1 h.at').1;simp[Array.getElem?_setIfInBounds,this]⟩
theorem lN.cell{w:tW}{b o:Nat}{cs:tAV}{t:gh}{l:tLB}(h:lN w b o cs t l):w.cell? ⟨b,o,ez⟩=eC (eI (T l)):=(h.blk.cell o).trans h.at'
theorem lN.frozen{w:tW}{b o:Nat}{cs:tAV}{t:gh}{l:tLB}(h:lN w b o cs t l):w.frozen? ⟨b,o,ez⟩=eE:=h.blk.frozen o
theorem lN.ae{w w':tW}{b o:Nat}{cs:tAV}{t:gh}{l:tLB}(h:lN w b o cs t l)(m:aa ah w w'):lN w' b o cs t l:=⟨h.blk.ae m id,h.at'⟩
theorem set_set(cs:tAV)(o:Nat)(v v':eM):(cs.setIfInBounds o v).setIfInBounds o v'=cs.setIfInBounds o v':=by
 apply Array.ext
 ·simp
 ·intro i h1 h2;simp only[Array.size_setIfInBounds]at h1 h2;by_cases e:o=i<;>simp[Array.getElem_setIfInBounds,e]
theorem Ph(l:tLB)(w:tW):fL prog 290 #[eI (T l),eI ⟨#[32]⟩] w λe w'=>e=fR (eI (T (aC l)))/\w'=w:=by
 have h:=Any.strings_TrimLeft_one lt (T l) 32 (by decide) w;have e:(T l).data.toList=l:=by simp[T]
 rw[e]at h;exact h
theorem Iz(l p:tLB)(w:tW):fL prog 293 #[eI (T l),eI (T p)] w λe w'=>e=fR (fS (p.isPrefixOf l))/\w'=w:=by
 have h:=Any.strings_HasPrefix lp (T l) (T p) w;have e:∀l,(T l).data.toList=l:=λl=>by simp[T]
 rw[e,e]at h;exact h
theorem BX(b o:Nat)(cs:tAV)(t:gh)(l:tLB)(w:tW)(h:lN w b o cs t l):fL prog 185 #[ia (eC ⟨b,o,ez⟩)] w λe w'=>e=fR (gb #[])/\w'=w.setCell ⟨b,o,ez⟩ (eI (T (aC l))):=by have c0:=h.cell;have f0:=h.frozen;go_in;go_wp2_with fail;refine(Ph l _).mono ?_;rintro e w1 ⟨rfl,rfl⟩;go_wp2_with fail;go_end0;exact⟨rfl,rfl⟩
def bG(w:tW)(b o:Nat)(cs:tAV)(t:gh)(l':tLB)(w':tW):Prop:=lN w' b o (cs.setIfInBounds o (eI (T l'))) t l'/\aa (Only b) w w'
theorem lI(b o:Nat)(cs:tAV)(t:gh)(l:tLB)(w:tW)(h:lN w b o cs t l):fL prog 102 #[ia (eC ⟨b,o,ez⟩)] w λe w'=>e=fR (fS (eS (aC l=[])))/\bG w b o cs t (aC l) w':=by
 have HP:af (bG w b o cs t (aC l) (w.setCell ⟨b,o,ez⟩ (eI (T (aC l))))):=⟨h.set _,aA.bz o _⟩
 have c1:=(h.set (aC l)).cell;have HK:=ai (BX b o cs t l w h);generalize aC l=m at *;cases m with
 |nil =>have he:=lh;go_in;go_wp2_with fail;refine HK.o.mono ?_;rintro e w1 ⟨rfl,rfl⟩;go_wp2_with fail;go_ret;exact⟨by simp,HP.o⟩
 |cons c m =>have he:=iX c m;go_in;go_wp2_with fail;refine HK.o.mono ?_;rintro e w1 ⟨rfl,rfl⟩;go_wp2_with fail;go_ret;exact⟨by simp,HP.o⟩
theorem iL(l:tLB):ee (aC l)<=ee l:=(cj _).length_le
theorem iY(b o:Nat)(cs:tAV)(t:gh)(l:tLB)(c:UInt8)(w:tW)(h:lN w b o cs t l)(hl:ee l<=1000000):fL prog 104 #[ia (eC ⟨b,o,ez⟩),vB (c.toNat:Int)] w λe w'=>e=fR (fS (bB c l))/\bG w b o cs t (bC c l) w':=by
 have h1:=h.set (aC l);have HP:af (bG w b o cs t (aC l) (w.setCell ⟨b,o,ez⟩ (eI (T (aC l))))):=⟨h1,aA.bz o _⟩
 have c1:=h1.cell;have f1:=h1.frozen;have hsl:=iL l;have HM:af (bB c l=((aC l).head?==eC c)):=rfl;have HL:af (bC c l=if bB c l then(aC l).tail else aC l):=rfl;have HK:=ai (BX b o cs t l w h);generalize bB c l=hm at *;generalize bC c l=ml at *;generalize aC l=m at *;cases m with
 |nil =>have he:=lh;have hm':hm=eE:=HM.o;subst hm';have HL2:=ai HL.o;go_in;go_wp2_with fail;refine HK.o.mono ?_;rintro e w1 ⟨rfl,rfl⟩;go_wp2_with fail;go_ret;rw[HL2.o];exact⟨rfl,HP.o⟩
 |cons d m =>
  have he:=iX d m;have hd:=d.toNat_lt;have hc:=c.toNat_lt;have hs:(T (d::m)).size=ee m+1:=bS _;have hg:(T (d::m))[0]'(by rw[hs];omega)=d:=rfl;simp only[List.length_cons]at hsl;by_cases e:d=c
  ·subst e;have hm':hm=eJ:=by rw[HM.o];simp
   subst hm';have HL2:=ai HL.o;have e2:(T (d::m)).extract 1 (ee m+1)=T m:=by have:=nr (d::m) 1;rw[hs]at this;exact this
   have hq:((d.toNat:Int) !=(d.toNat:Int))=eE:=by simp
   have pO:af (bG w b o cs t m ((w.setCell ⟨b,o,ez⟩ (eI (T (d::m)))).setCell ⟨b,o,ez⟩ (eI (T m)))):=by have:=h1.set m;rw[set_set]at this;exact⟨this,HP.o.2.bz o _⟩
   go_in;go_wp2_with fail;refine HK.o.mono ?_;rintro e w1 ⟨rfl,rfl⟩;go_wp2_with fail;go_ret;rw[HL2.o];exact⟨rfl,pO.o⟩
  ·have hm':hm=eE:=by rw[HM.o];simpa using e
   subst hm';have HL2:=ai HL.o;have hq:((d.toNat:Int) !=(c.toNat:Int))=eJ:=by rw[bne_iff_ne];exact λh=>e (UInt8.toNat_inj.1 (by omega))
   go_in;go_wp2_with fail;refine HK.o.mono ?_;rintro e w1 ⟨rfl,rfl⟩;go_wp2_with fail;go_ret;rw[HL2.o];exact⟨rfl,HP.o⟩
theorem lQ(p:UInt8->Bool):∀(l:tLB) (k:Nat),(∀(h:k<ee l),p l[k]=eE)->k<=ee l->(∀j (hj:j<k) (h:j<ee l),p l[j]=eJ)->l.takeWhile p=l.take k/\l.dropWhile p=l.drop k
 |[],k,_,hk,_=>by
  have:k=0:=by simpa using hk
  subst this;simp
 |c::l,0,h0,_,_=>by have:=h0 (by simp);simp only[List.getElem_cons_zero]at this;simp[cG,ab,this]
 |c::l,k+1,h0,hk,hj=>by have hc:p c=eJ:=hj 0 (by omega) (by simp);have ih:=lQ p l k (λh=>by have:=h0 (by simp;omega);simpa using this) (by simpa using hk) (λj hjk h=>by have:=hj (j+1) (by omega) (by simp;omega);simpa using this);simp[cG,ab,hc,ih.1,ih.2]
theorem iA(b o:Nat)(cs:tAV)(t:gh)(l:tLB)(w:tW)(h:lN w b o cs t l)(hl:ee l<=1000000):fL prog 103 #[ia (eC ⟨b,o,ez⟩)] w λe w'=>e=fR (eI (T (aQ l).1))/\bG w b o cs t (aQ l).2 w':=by
 have h1:=h.set (aC l);have HP:af (bG w b o cs t (aC l) (w.setCell ⟨b,o,ez⟩ (eI (T (aC l))))):=⟨h1,aA.bz o _⟩
 have hsl:=iL l;have HW:af (aQ l=((aC l).takeWhile wG,(aC l).dropWhile wG)):=rfl;have HK:=ai (BX b o cs t l w h);generalize aQ l=wl at *;generalize aC l=m at *;generalize hw1:w.setCell ⟨b,o,ez⟩ (eI (T m))=wk at *;have hs:(T m).size=ee m:=bS _;clear h hw1;go_in;go_wp2_with fail;refine HK.o.mono ?_;rintro e w1 ⟨rfl,rfl⟩;go_wp2_with fail;go_loopw [3] (λv wx=>∃k:Nat,k<=ee m/\v=vI k/\bG w b o cs t m wx/\∀j (hj:j<k) (h:j<ee m),wG m[j]=eJ) (λv _=>ee m-(intOf v).toNat)
 case atStart=>exact⟨0,cb _,rfl,HP.o,λj hj=>absurd hj (Nat.not_lt_zero _)⟩
 case round =>
  obtain⟨k,hk,rfl,hP,hA⟩:=hrel;have HPk:=ai hP;have HA:=ai hA;have c1:=HPk.o.1.cell;have f1:=HPk.o.1.frozen;clear hP hA HK;by_cases hlt:k<ee m
  ·have hg:(T m)[k]'(by rw[hs];exact hlt)=m[k]:=rfl;have hb:=(m[k]).toNat_lt;cases hc:wG m[k]with
   |true =>
    have hc':pR ((m[k]).toNat:Int)=eJ:=hc;go_wp2_with (go_at_call 186;refine(l9 _ _).mono ?_;rintro e w' ⟨rfl,rfl⟩);go_roundw
    case rel=>exact⟨k+1,by omega,by go_num,HPk.o,λj hj h=>by
     rcases cH j k with e|e
     ·exact HA.o j e h
     ·have:j=k:=by omega
      subst this;exact hc⟩
    case measure=>simp[intOf];omega
   |false =>
    have hc':pR ((m[k]).toNat:Int)=eE:=hc;obtain⟨e1,e2⟩:=lQ wG m k (λ_=>hc) hk HA.o;have HW2:af (wl=(m.take k,m.drop k)):=by rw[af,HW.o,e1,e2]
    have x1:=zG m k;have x2:(T m).extract k (ee m)=T (m.drop k):=by have:=nr m k;rw[hs]at this;exact this
    have pO:af (bG w b o cs t (m.drop k) (wr.setCell ⟨b,o,ez⟩ (eI (T (m.drop k))))):=by have:=HPk.o.1.set (m.drop k);rw[set_set]at this;exact⟨this,HPk.o.2.bz o _⟩
    clear e1 e2 HW;go_wp2_with (go_at_call 186;refine(l9 _ _).mono ?_;rintro e w' ⟨rfl,rfl⟩);go_ret;rw[HW2.o];exact⟨rfl,pO.o⟩
  ·have hke:k=ee m:=by omega
   subst hke;obtain⟨e1,e2⟩:=lQ wG m (ee m) (λh=>absurd h (Nat.lt_irrefl _)) hk HA.o;have HW2:af (wl=(m,[])):=by rw[af,HW.o,e1,e2,cQ,bt]
   have x1:(T m).extract 0 (ee m)=T m:=by rw[zG,cQ]
   have x2:(T m).extract (ee m) (ee m)=T []:=by have:=nr m (ee m);rw[hs,bt]at this;exact this
   have pO:af (bG w b o cs t [] (wr.setCell ⟨b,o,ez⟩ (eI (T [])))):=by have:=HPk.o.1.set [];rw[set_set]at this;exact⟨this,HPk.o.2.bz o _⟩
   clear e1 e2 HW;go_wp2_with fail;go_ret;rw[HW2.o];exact⟨rfl,pO.o⟩
theorem bG.quiet{w w1 w2:tW}{b o:Nat}{cs:tAV}{t:gh}{l:tLB}(h:bG w b o cs t l w1)(m:aa ah w1 w2):bG w b o cs t l w2:=⟨h.1.ae m,h.2.trans m.of_nil⟩
theorem bG.after{w w1 w2:tW}{b o:Nat}{cs:tAV}{t:gh}{l l':tLB}(h:bG w b o cs t l w1)(k:bG w1 b o (cs.setIfInBounds o (eI (T l))) t l' w2):bG w b o cs t l' w2:=by have h1:=k.1;rw[set_set]at h1;exact⟨h1,h.2.trans k.2⟩
theorem jY(l:tLB):ee (aQ l).1<=ee l/\(aQ l).2.length<=ee l:=by have h:=iL l;have h1:ee ((aC l).takeWhile wG)<=ee (aC l):=(List.takeWhile_sublist _).length_le;have h2:ee ((aC l).dropWhile wG)<=ee (aC l):=(cj _).length_le;exact⟨Nat.le_trans h1 h,Nat.le_trans h2 h⟩
theorem qK(c:UInt8)(l:tLB):ee (bC c l)<=ee l:=by
 have h:=iL l;unfold bC;split
 ·have:ee (aC l).tail<=ee (aC l):=by simp
  omega
 ·exact h
theorem px{a b:tLB}(h:T a=T b):a=b:=by
 have:=congrArg (λx:tBA=>x.data.toList) h
 simpa [T]using this
theorem Yo{w:tLB}{k:Nat}(hk:k<11)(h:w=BU k)(hj:∀j,j<k->w≠BU j):dz w=eC k:=by
 unfold dz;rw[List.find?_range_eq_some];refine⟨by simp[h],by simpa using hk,λj hjk=>?_⟩;have:=hj j hjk
 simpa using this
theorem Uk{w:tLB}(hj:∀j,j<11->w≠BU j):dz w=ez:=by
 unfold dz;rw[List.find?_range_eq_none];intro j h;have:=hj j h
 simpa using this
theorem EC(x:tLB)(w:tW)(hE:Env w)(hx:ee x<=1000000):fL prog 292 #[eI (T x)] w λe w'=>e=fR (gb #[vB (((dz x).getD 0:Nat):Int),fS (dz x).isSome])/\aa ah w w':=by
 have HH:af (∀k,k<11->x=BU k->(∀j,j<k->x≠BU j)->dz x=eC k):=λk=>Yo;have HZ:af ((∀j,j<11->x≠BU j)->dz x=ez):=Uk;generalize dz x=rx at *;go_in;go_wp2_with fail;go_loopw [5] (λv wx=>∃k:Nat,k<=11/\v=vI k/\aa ah w wx/\∀j,j<k->x≠BU j) (λv _=>11-(intOf v).toNat)
 case atStart=>exact⟨0,cb _,rfl,aA,λj hj=>absurd hj (Nat.not_lt_zero _)⟩
 case round =>
  obtain⟨k,hk,rfl,hm,hj⟩:=hrel;have HM:=ai hm;have HJ:=ai hj;clear hm hj;by_cases hlt:k<11
  ·have hil:=Ud (k:Int) (by omega) (by omega);rw[<-bS]at hil;have HE:af (T (BU k)=(⟨#[114]⟩:tBA)++T (cD (k:Int))):=by rw[af,BU];exact yF [114] _
   go_wp2_with fail;refine(Uc (k:Int) (by omega) (by omega) _ (hE.ae HM.o)).mono ?_;rintro e w1 ⟨rfl,m1⟩;have dB:=ai (HM.o.trans m1);clear m1;by_cases hxk:x=BU k
   ·have HR:=ai (HH.o k hlt hxk HJ.o);have hq:((T x).toList==((⟨#[114]⟩:tBA)++T (cD (k:Int))).toList)=eJ:=FV (by rw[hxk,HE.o]);generalize T (cD (k:Int))=sd at *;clear HE hxk;go_wp2_with fail;go_ret2;rw[HR.o];exact⟨rfl,dB.o⟩
   ·have hq:((T x).toList==((⟨#[114]⟩:tBA)++T (cD (k:Int))).toList)=eE:=qF (λe=>hxk (by rw[<-HE.o]at e;exact px e));generalize T (cD (k:Int))=sd at *;have HX:=ai hxk;clear HE hxk;go_wp2_with fail;go_roundw
    case rel=>exact⟨k+1,by omega,by go_num,dB.o,λj h=>by
     rcases cH j k with e|e
     ·exact HJ.o j e
     ·have:j=k:=by omega
      subst this;exact HX.o⟩
    case measure=>simp[intOf];omega
  ·have HR:=ai (HZ.o (λj h=>HJ.o j (by omega)));go_wp2_with fail;go_ret2;rw[HR.o];exact⟨rfl,HM.o⟩
theorem Pj(x:tLB)(w:tW)(hE:Env w)(hx:ee x<=1000000):fL prog 188 #[eI (T x)] w λe w'=>e=fR (fS (dz x).isSome)/\aa ah w w':=by have HR:=EC x w hE hx;generalize dz x=rx at *;go_in;go_wp2_with fail;refine HR.mono ?_;rintro e w1 ⟨rfl,m1⟩;go_wp2_with fail;go_ret;exact⟨rfl,m1⟩
theorem IA(b o:Nat)(cs:tAV)(t:gh)(l:tLB)(w:tW)(h:lN w b o cs t l)(hl:ee l<=1000000)(hE:∀w',aa (Only b) w w'->Env w'):fL prog 195 #[ia (eC ⟨b,o,ez⟩)] w λe w'=>e=fR (gb #[vB (((dz (aQ l).1).getD 0:Nat):Int),fS (dz (aQ l).1).isSome])/\bG w b o cs t (aQ l).2 w':=by have HW:=iA b o cs t l w h hl;have hle:=jY l;have HR:af (∀w',Env w'->fL prog 292 #[eI (T (aQ l).1)] w' λe w''=>e=fR (gb #[vB (((dz (aQ l).1).getD 0:Nat):Int),fS (dz (aQ l).1).isSome])/\aa ah w' w''):=λw' hE'=>EC _ w' hE' (by omega);generalize dz (aQ l).1=rx at *;generalize aQ l=wl at *;obtain⟨w1,w2⟩:=wl;simp only at *;go_in;go_wp2_with fail;refine HW.mono ?_;rintro e wa ⟨rfl,hp⟩;go_wp2_with fail;refine(HR.o _ (hE _ hp.2)).mono ?_;rintro e wb ⟨rfl,m1⟩;go_wp2_with fail;go_ret2;exact⟨rfl,hp.quiet m1⟩
theorem pV(b o:Nat)(cs:tAV)(t:gh)(l:tLB)(w:tW)(h:lN w b o cs t l)(hl:ee l<=1000000):fL prog 108 #[ia (eC ⟨b,o,ez⟩)] w λe w'=>e=fR (gb #[eI (T (aQ l).1),fS (nameB (aQ l).1)])/\bG w b o cs t (aQ l).2 w':=by have HW:=iA b o cs t l w h hl;have hle:=jY l;have HR:=ai (λw'=>by have:=tZ (T (aQ l).1) w' (by rw[bS];unfold fX;omega);rw[show(T (aQ l).1).data.toList=(aQ l).1 by simp[T]]at this;exact this);generalize nameB (aQ l).1=rx at *;generalize aQ l=wl at *;obtain⟨w1,w2⟩:=wl;simp only at *;go_in;go_wp2_with fail;refine HW.mono ?_;rintro e wa ⟨rfl,hp⟩;go_wp2_with fail;refine(HR.o _).mono ?_;rintro e wb ⟨rfl,rfl⟩;go_wp2_with fail;go_ret2;exact⟨rfl,hp⟩
theorem Pk(c:UInt8)(w:tW):fL prog 376 #[vB (c.toNat:Int)] w λe w'=>e=fR (vU (Br c:Nat))/\w'=w:=by
 have hc:=c.toNat_lt;have HD:af (Br c=if 48<=c.toNat/\c.toNat<=57 then c.toNat-48 else if 97<=c.toNat/\c.toNat<=102 then c.toNat-87 else 255):=rfl;generalize Br c=dc at *;generalize c.toNat=n at *;by_cases h1:48<=n/\n<=57
 ·obtain⟨ha,hb⟩:=h1;have HV:af ((dc:Int)=(n:Int)-48):=by rw[af,HD.o,iP9 ⟨ha,hb⟩];omega
  have hq:kL (n:Int)=eJ:=by unfold kL;simp;omega
  have ha':(48:Int)<=n:=by omega
  have hb':(n:Int)<=57:=by omega
  go_in;go_wp2_with (go_at_call 291;refine(nu _ _).mono ?_;rintro e w' ⟨rfl,rfl⟩);go_ret;exact⟨by rw[HV.o];rfl,rfl⟩
 ·have hq:kL (n:Int)=eE:=by unfold kL;rw[Bool.and_eq_false_iff];simp;omega
  by_cases h2:97<=n
  ·have h2':(97:Int)<=n:=by omega
   by_cases h3:n<=102
   ·have h3':(n:Int)<=102:=by omega
    have HV:af ((dc:Int)=(n:Int)-97+10):=by rw[af,HD.o,iN9 h1,iP9 ⟨h2,h3⟩];omega
    go_in;go_wp2_with (go_at_call 291;refine(nu _ _).mono ?_;rintro e w' ⟨rfl,rfl⟩);go_ret;exact⟨by rw[HV.o];rfl,rfl⟩
   ·have h3':eS ((n:Int)<=102)=eE:=by simp;omega
    have HV:af (dc=255):=by rw[af,HD.o,iN9 h1,iN9 (by omega)]
    go_in;go_wp2_with (go_at_call 291;refine(nu _ _).mono ?_;rintro e w' ⟨rfl,rfl⟩);go_ret;exact⟨by rw[HV.o];rfl,rfl⟩
  ·have h2':eS ((97:Int)<=n)=eE:=by simp;omega
   have HV:af (dc=255):=by rw[af,HD.o,iN9 h1,iN9 (by omega)]
   go_in;go_wp2_with (go_at_call 291;refine(nu _ _).mono ?_;rintro e w' ⟨rfl,rfl⟩);go_ret;exact⟨by rw[HV.o];rfl,rfl⟩
def bE.fB(n:bE):eM:=fW #[fS n.minus,vU ((n.v%18446744073709551616:Nat):Int),fS (eS (18446744073709551616<=n.v))]
theorem yI(n:bE)(w:tW):fL prog 268 #[n.fB,vI 16] w λe w'=>e=fR (gb #[vI ((n.dL 32768).getD 0),fS (n.dL 32768).isSome])/\aa ah w w':=by
 obtain⟨v,mi⟩:=n;have HS:af ((bE.mk v mi).dL 32768=if 18446744073709551616<=v then ez else if mi then(if v<=32768 then eC (-(v:Int))else ez)else(if v<32768 then eC (v:Int)else ez)):=rfl;generalize(bE.mk v mi).dL 32768=sg at *;unfold bE.fB;dsimp only;by_cases hb:18446744073709551616<=v
 ·have HS2:af (sg=ez):=by rw[af,HS.o,iP9 hb]
  have hq:eS (18446744073709551616<=v)=eJ:=by simpa using hb
  rw[hq];generalize((v%18446744073709551616:Nat):Int)=u;go_in;go_wp2_with fail;go_ret2;rw[HS2.o];exact⟨rfl,aq⟩
 ·have hq:eS (18446744073709551616<=v)=eE:=by simpa using hb
  have hm:v%18446744073709551616=v:=an (by omega);rw[hq,hm];have yJ:af (sg=if mi then(if v<=32768 then eC (-(v:Int))else ez)else(if v<32768 then eC (v:Int)else ez)):=by rw[af,HS.o,iN9 hb]
  clear HS hq hm;cases mi with
  |true =>
   by_cases h1:v<=32768
   ·have HS2:af (sg=eC (-(v:Int))):=by rw[af,yJ.o,iP9 rfl,iP9 h1]
    have h1':(v:Int)<=32768:=by omega
    go_in;go_wp2_with fail;go_ret2;rw[HS2.o];exact⟨rfl,aq⟩
   ·have HS2:af (sg=ez):=by rw[af,yJ.o,iP9 rfl,iN9 h1]
    have h1':eS ((v:Int)<=32768)=eE:=by simp;omega
    go_in;go_wp2_with fail;go_ret2;rw[HS2.o];exact⟨rfl,aq⟩
  |false =>
   by_cases h1:v<32768
   ·have HS2:af (sg=eC (v:Int)):=by rw[af,yJ.o,iN9 (by decide),iP9 h1]
    have h1':(v:Int)<32768:=by omega
    go_in;go_wp2_with fail;go_ret2;rw[HS2.o];exact⟨rfl,aq⟩
   ·have HS2:af (sg=ez):=by rw[af,yJ.o,iN9 (by decide),iN9 h1]
    have h1':eS ((v:Int)<32768)=eE:=by simp;omega
    go_in;go_wp2_with fail;go_ret2;rw[HS2.o];exact⟨rfl,aq⟩
theorem FZ(n:bE)(w:tW):fL prog 268 #[n.fB,vI 32] w λe w'=>e=fR (gb #[vI ((n.dL 2147483648).getD 0),fS (n.dL 2147483648).isSome])/\aa ah w w':=by
 obtain⟨v,mi⟩:=n;have HS:af ((bE.mk v mi).dL 2147483648=if 18446744073709551616<=v then ez else if mi then(if v<=2147483648 then eC (-(v:Int))else ez)else(if v<2147483648 then eC (v:Int)else ez)):=rfl;generalize(bE.mk v mi).dL 2147483648=sg at *;unfold bE.fB;dsimp only;by_cases hb:18446744073709551616<=v
 ·have HS2:af (sg=ez):=by rw[af,HS.o,iP9 hb]
  have hq:eS (18446744073709551616<=v)=eJ:=by simpa using hb
  rw[hq];generalize((v%18446744073709551616:Nat):Int)=u;go_in;go_wp2_with fail;go_ret2;rw[HS2.o];exact⟨rfl,aq⟩
 ·have hq:eS (18446744073709551616<=v)=eE:=by simpa using hb
  have hm:v%18446744073709551616=v:=an (by omega);rw[hq,hm];have yJ:af (sg=if mi then(if v<=2147483648 then eC (-(v:Int))else ez)else(if v<2147483648 then eC (v:Int)else ez)):=by rw[af,HS.o,iN9 hb]
  clear HS hq hm;cases mi with
  |true =>
   by_cases h1:v<=2147483648
   ·have HS2:af (sg=eC (-(v:Int))):=by rw[af,yJ.o,iP9 rfl,iP9 h1]
    have h1':(v:Int)<=2147483648:=by omega
    go_in;go_wp2_with fail;go_ret2;rw[HS2.o];exact⟨rfl,aq⟩
   ·have HS2:af (sg=ez):=by rw[af,yJ.o,iP9 rfl,iN9 h1]
    have h1':eS ((v:Int)<=2147483648)=eE:=by simp;omega
    go_in;go_wp2_with fail;go_ret2;rw[HS2.o];exact⟨rfl,aq⟩
  |false =>
   by_cases h1:v<2147483648
   ·have HS2:af (sg=eC (v:Int)):=by rw[af,yJ.o,iN9 (by decide),iP9 h1]
    have h1':(v:Int)<2147483648:=by omega
    go_in;go_wp2_with fail;go_ret2;rw[HS2.o];exact⟨rfl,aq⟩
   ·have HS2:af (sg=ez):=by rw[af,yJ.o,iN9 (by decide),iN9 h1]
    have h1':eS ((v:Int)<2147483648)=eE:=by simp;omega
    go_in;go_wp2_with fail;go_ret2;rw[HS2.o];exact⟨rfl,aq⟩
theorem ma(n:bE)(w:tW):fL prog 268 #[n.fB,vI 64] w λe w'=>e=fR (gb #[vI ((n.dL 9223372036854775808).getD 0),fS (n.dL 9223372036854775808).isSome])/\aa ah w w':=by
 obtain⟨v,mi⟩:=n;have HS:af ((bE.mk v mi).dL 9223372036854775808=if 18446744073709551616<=v then ez else if mi then(if v<=9223372036854775808 then eC (-(v:Int))else ez)else(if v<9223372036854775808 then eC (v:Int)else ez)):=rfl;generalize(bE.mk v mi).dL 9223372036854775808=sg at *;unfold bE.fB;dsimp only;by_cases hb:18446744073709551616<=v
 ·have HS2:af (sg=ez):=by rw[af,HS.o,iP9 hb]
  have hq:eS (18446744073709551616<=v)=eJ:=by simpa using hb
  rw[hq];generalize((v%18446744073709551616:Nat):Int)=u;go_in;go_wp2_with fail;go_ret2;rw[HS2.o];exact⟨rfl,aq⟩
 ·have hq:eS (18446744073709551616<=v)=eE:=by simpa using hb
  have hm:v%18446744073709551616=v:=an (by omega);rw[hq,hm];have yJ:af (sg=if mi then(if v<=9223372036854775808 then eC (-(v:Int))else ez)else(if v<9223372036854775808 then eC (v:Int)else ez)):=by rw[af,HS.o,iN9 hb]
  clear HS hq hm;cases mi with
  |true =>
   by_cases h1:v<=9223372036854775808
   ·have HS2:af (sg=eC (-(v:Int))):=by rw[af,yJ.o,iP9 rfl,iP9 h1]
    have h1':(v:Int)<=9223372036854775808:=by omega
    have hw:Go.RowKit.wrap64 (-Go.RowKit.wrap64 (v:Int))=-(v:Int):=by unfold Go.RowKit.wrap64;omega
    go_in;go_wp2_with fail;go_ret2;rw[HS2.o];exact⟨rfl,aq⟩
   ·have HS2:af (sg=ez):=by rw[af,yJ.o,iP9 rfl,iN9 h1]
    have h1':eS ((v:Int)<=9223372036854775808)=eE:=by simp;omega
    go_in;go_wp2_with fail;go_ret2;rw[HS2.o];exact⟨rfl,aq⟩
  |false =>
   by_cases h1:v<9223372036854775808
   ·have HS2:af (sg=eC (v:Int)):=by rw[af,yJ.o,iN9 (by decide),iP9 h1]
    have h1':(v:Int)<9223372036854775808:=by omega
    go_in;go_wp2_with fail;go_ret2;rw[HS2.o];exact⟨rfl,aq⟩
   ·have HS2:af (sg=ez):=by rw[af,yJ.o,iN9 (by decide),iN9 h1]
    have h1':eS ((v:Int)<9223372036854775808)=eE:=by simp;omega
    go_in;go_wp2_with fail;go_ret2;rw[HS2.o];exact⟨rfl,aq⟩
theorem Ul(n:bE)(w:tW):fL prog 354 #[n.fB] w λe w'=>e=fR (gb #[vU ((n.gH.getD 0:Nat):Int),fS n.gH.isSome])/\aa ah w w':=by
 obtain⟨v,mi⟩:=n;have HS:af ((bE.mk v mi).gH=if 18446744073709551616<=v then ez else if mi then(if v<=9223372036854775808 then eC ((18446744073709551616-v)%18446744073709551616)else ez)else eC v):=rfl;generalize(bE.mk v mi).gH=sg at *;unfold bE.fB;dsimp only;by_cases hb:18446744073709551616<=v
 ·have HS2:af (sg=ez):=by rw[af,HS.o,iP9 hb]
  have hq:eS (18446744073709551616<=v)=eJ:=by simpa using hb
  rw[hq];generalize((v%18446744073709551616:Nat):Int)=u;go_in;go_wp2_with fail;go_ret2;rw[HS2.o];exact⟨rfl,aq⟩
 ·have hq:eS (18446744073709551616<=v)=eE:=by simpa using hb
  have hm:v%18446744073709551616=v:=an (by omega);rw[hq,hm];have yJ:af (sg=if mi then(if v<=9223372036854775808 then eC ((18446744073709551616-v)%18446744073709551616)else ez)else eC v):=by rw[af,HS.o,iN9 hb]
  clear HS hq hm;cases mi with
  |true =>
   by_cases h1:v<=9223372036854775808
   ·have HS2:af (sg=eC ((18446744073709551616-v)%18446744073709551616)):=by rw[af,yJ.o,iP9 rfl,iP9 h1]
    have h1':(v:Int)<=9223372036854775808:=by omega
    have HW:af (IntKind.u64.wrap (-(v:Int))=(((18446744073709551616-v)%18446744073709551616:Nat):Int)):=by rw[af,wrap64];omega
    go_in;go_wp2_with fail;go_ret2;rw[HS2.o];refine⟨?_,aq⟩;show _=Ending.returned (gb #[vU (((18446744073709551616-v)%18446744073709551616:Nat):Int),fS eJ])
    rw[<-HW.o];rfl
   ·have HS2:af (sg=ez):=by rw[af,yJ.o,iP9 rfl,iN9 h1]
    have h1':eS ((v:Int)<=9223372036854775808)=eE:=by simp;omega
    go_in;go_wp2_with fail;go_ret2;rw[HS2.o];exact⟨rfl,aq⟩
  |false =>
   have HS2:af (sg=eC v):=by rw[af,yJ.o,iN9 (by decide)]
   go_in;go_wp2_with fail;go_ret2;rw[HS2.o];exact⟨rfl,aq⟩
theorem AR(n:bE)(w:tW):fL prog 310 #[n.fB] w λe w'=>e=fR (bE.mk n.v (!n.minus)).fB/\aa ah w w':=by
 obtain⟨v,mi⟩:=n;unfold bE.fB;dsimp only;generalize((v%18446744073709551616:Nat):Int)=u;generalize eS (18446744073709551616<=v)=bg
 have hb1:ak ((w.alloc (eR #[fS (!mi),vU u,fS bg] 136)).alloc (eR #[fS (!mi),vU u,fS bg] 136)) (w.heap.size+1) #[fS (!mi),vU u,fS bg] 136:=by
  have:=ak.new (w.alloc (eR #[fS (!mi),vU u,fS bg] 136)) #[fS (!mi),vU u,fS bg] 136
  simpa using this
 have HB:=ai hb1;clear hb1;go_in;go_wp2_with fail;exact iz (results_cell_row results310 _ _ (w.heap.size+1) 136 _ (0,0) _ rfl HB.o underlying136 rfl (by kernel_rfl)) rfl ⟨rfl,aq.alloc _⟩
theorem Yp(c:UInt8):Br c<=255:=by
 unfold Br;have:=c.toNat_lt;split
 ·omega
 ·split<;>omega
theorem Pm(base:Nat)(m:tLB)(k v:Nat)(hk:k<ee m):digsP base (m.drop k) v=if base<=Br m[k]then ez else digsP base (m.drop (k+1)) (v*base+Br m[k]):=by rw[List.drop_eq_getElem_cons hk,digsP]
theorem Pn(x:tLB)(w:tW)(hx:ee x<=1000000):fL prog 351 #[eI (T x)] w λe w'=>e=fR (gb #[(bE.mk ((fA x).getD 0) eE).fB,fS (fA x).isSome])/\aa ah w w':=by
 have fQ:=ai (ak.new w #[fS eE,vU 0,fS eE] 136);have dU:af (aa ah w (w.alloc (eR #[fS eE,vU 0,fS eE] 136))):=aq;have HZ0:af ((bE.mk 0 eE).fB=fW #[fS eE,vU 0,fS eE]):=rfl;have aa6:af (fA x=if pU x=[]\/20<ee x then ez else digsP (yH x) (pU x) 0):=rfl;have XN:af (yH x=if Iy x then 16 else 10):=rfl;have XO:af (pU x=if Iy x then x.drop 2 else x):=rfl
 have HHX:af (Iy x=eJ->2<=ee x):=λh=>by
  unfold Iy at h
  match x,h with
  |[],h=>simp[b5]at h
  |[a],h=>simp[b5]at h
  |a::b::r,_=>simp
 have Um:af (∀w',fL prog 293 #[eI (T x),eI (T [48,120])] w' λe w''=>e=fR (fS (Iy x))/\w''=w'):=λw'=>Iz x [48,120] w';have hs:=bS x;generalize fA x=nx at *;generalize yH x=base at *;generalize pU x=m at *;generalize Iy x=hb at *;go_in;go_wp2_with fail;refine(Um.o _).mono ?_;rintro e w1 ⟨rfl,rfl⟩;clear Um;generalize w.alloc (eR #[fS eE,vU 0,fS eE] 136)=w1 at *;have HRl:af (w.heap.size<=w.heap.size):=Nat.le_refl _;generalize hRr:w.heap.size=R at *;go_upto_if 11 with fail;go_cut [4,5] (λbv dv wx=>bv=vU (base:Nat)/\dv=eI (T m)/\aa ah w1 wx)
 case first =>
  cases hb with
  |true =>
   have h2:=HHX.o rfl;have e2:(T x).extract 2 (ee x)=T (x.drop 2):=by have:=nr x 2;rw[hs]at this;exact this
   have HB2:af (base=16):=XN.o;have HD2:af (m=x.drop 2):=XO.o;have h2':(2:Int)<=ee x:=by omega
   go_upto_region 3 with fail;go_quiet (fail);have hmq:aa ah w1 (w1.drewN nq):=aA.drewN nq;go_wp2_with fail;go_meet;exact⟨by rw[HB2.o];rfl,by rw[HD2.o],hmq⟩
  |false =>have HB2:af (base=10):=XN.o;have HD2:af (m=x):=XO.o;go_wp2_with fail;go_meet;exact⟨by rw[HB2.o];rfl,by rw[HD2.o],aA⟩
 case rest =>
 obtain⟨rfl,rfl,hmc⟩:=hcut;have DZ:=ai (fQ.o.ae hmc id);have dB:=ai (dU.o.trans hmc)
 have hbs:base=10\/base=16:=by
  rw[XN.o];cases hb
  ·exact .inl rfl
  ·exact .inr rfl
 have F5:ee m<=ee x:=by
  rw[XO.o];split
  ·simp
  ·exact Nat.le_refl _
 clear fQ dU hmc XN XO HHX;have r0:=DZ.o.c0;have r1:=DZ.o.c1;have r2:=DZ.o.c2;have rf:=DZ.o.frozen;have hms:=bS m;by_cases h0:m=[]\/20<ee x
 ·have Eg:af (nx=ez):=by rw[af,aa6.o,iP9 h0]
  have K1:af (ak (((wc.setCell ⟨R,0,ez⟩ (fS eE)).setCell ⟨R,1,ez⟩ (vU 0)).setCell ⟨R,2,ez⟩ (fS eE)) R #[fS eE,vU 0,fS eE] 136):=((DZ.o.set 0 _).set 1 _).set 2 _;have Po:af (aa ah w (((wc.setCell ⟨R,0,ez⟩ (fS eE)).setCell ⟨R,1,ez⟩ (vU 0)).setCell ⟨R,2,ez⟩ (fS eE))):=by refine((dB.o.set (a:=⟨R,0,ez⟩) (.inr ?_) _).set (a:=⟨R,1,ez⟩) (.inr ?_) _).set (a:=⟨R,2,ez⟩) (.inr ?_) _<;>exact cI hRr
  cases m with
  |nil =>have he:=lh;go_wp2_with fail;refine iz (aw results351 _ _ R 136 _ (0,0) _ _ rfl rfl K1.o underlying136 rfl (by kernel_rfl)) rfl ⟨?_,Po.o⟩;rw[Eg.o];rfl
  |cons c m =>
   have he:=iX c m;have h20:20<ee x:=by rcases h0 with h|h;cases h;exact h
   have aek:(20:Int)<ee x:=by omega
   clear h0;go_wp2_with fail;refine iz (aw results351 _ _ R 136 _ (0,0) _ _ rfl rfl K1.o underlying136 rfl (by kernel_rfl)) rfl ⟨?_,Po.o⟩;rw[Eg.o];rfl
 ·have Eg:af (nx=digsP base m 0):=by rw[af,aa6.o,iN9 h0]
  have he:(T m).toList.isEmpty=eE:=by
   cases m with
   |nil=>exact absurd (.inl rfl) h0
   |cons c m=>exact iX c m
  have h20:ee x<=20:=by
   rcases cH 20 (ee x) with h|h
   ·exact absurd (.inr h) h0
   ·exact h
  have aek:eS ((20:Int)<ee x)=eE:=by simp;omega
  clear aa6 h0;have HB1:af (ak (wc.alloc (eR #[fS eE,vU 0,fS eE] 136)) wc.heap.size (bE.xg ⟨0,eE⟩).toArray 136):=ak.new wc _ _;have iO:af (ak (wc.alloc (eR #[fS eE,vU 0,fS eE] 136)) R #[fS eE,vU 0,fS eE] 136):=DZ.o.alloc _;have dV:=ai (dB.o.alloc (eR #[fS eE,vU 0,fS eE] 136));have hRB:=DZ.o.lt;have xu:=ai dB.o.size;go_upto_region 7 with fail;clear r0 r1 r2 rf DZ dB;generalize wc.alloc (eR #[fS eE,vU 0,fS eE] 136)=w2 at *;generalize hBb:wc.heap.size=B at *;have Ht:af (B≠R):=by rw[af];omega
  go_wp2_with fail;go_loopg [24] (ee m) (λq kv wx=>∃k v:Nat,kv=vI k/\ak wx B (bE.xg ⟨v,eE⟩).toArray 136/\ak wx R #[fS eE,vU 0,fS eE] 136/\aa ah w wx/\nx=digsP base (m.drop k) v/\k<=ee m/\q=ee m-k)
  case atStart=>exact⟨0,0,rfl,HB1.o,iO.o,dV.o,Eg.o,cb _,rfl⟩
  case round =>
   obtain⟨k,v,rfl,hb',hr,hm,hal,hks,rfl⟩:=hrel;have pQ:=ai hb';have vH:=ai hr;have xx:=ai hm;have HAk:=ai hal;clear hb' hr hm hal HB1 iO dV Eg;by_cases hkl:k<ee m
   ·have HA2:af (nx=if base<=Br m[k]then ez else digsP base (m.drop (k+1)) (v*base+Br m[k])):=by rw[af,HAk.o,Pm base m k v hkl]
    have hg:(T m)[k]'(by rw[hms];exact hkl)=m[k]:=rfl;have HV:=ai (λw'=>Pk m[k] w');have hdl:=Yp m[k];clear HAk;generalize Br m[k]=d at *;go_wp2_with fail;refine(HV.o _).mono ?_;rintro e w3 ⟨rfl,rfl⟩;clear HV;by_cases hd:base<=d
    ·have Tn:af (nx=ez):=by rw[af,HA2.o,iP9 hd]
     have hd':(base:Int)<=d:=by omega
     have r0:=vH.o.c0;have r1:=vH.o.c1;have r2:=vH.o.c2;have rf:=vH.o.frozen;have K1:af (ak (((w3.setCell ⟨R,0,ez⟩ (fS eE)).setCell ⟨R,1,ez⟩ (vU 0)).setCell ⟨R,2,ez⟩ (fS eE)) R #[fS eE,vU 0,fS eE] 136):=((vH.o.set 0 _).set 1 _).set 2 _;have Po:af (aa ah w (((w3.setCell ⟨R,0,ez⟩ (fS eE)).setCell ⟨R,1,ez⟩ (vU 0)).setCell ⟨R,2,ez⟩ (fS eE))):=by refine((xx.o.set (a:=⟨R,0,ez⟩) (.inr ?_) _).set (a:=⟨R,1,ez⟩) (.inr ?_) _).set (a:=⟨R,2,ez⟩) (.inr ?_) _<;>exact cI hRr
     clear HA2;go_wp2_with fail;refine iz (aw results351 _ _ R 136 _ (0,0) _ _ rfl rfl K1.o underlying136 rfl (by kernel_rfl)) rfl ⟨?_,Po.o⟩;rw[Tn.o];rfl
    ·have lq:af (nx=digsP base (m.drop (k+1)) (v*base+d)):=by rw[af,HA2.o,iN9 hd]
     have hd':eS ((base:Int)<=d)=eE:=by simp;omega
     have ael:d<=15:=by omega
     clear HA2;have HNX:=Uj v base d hbs ael;have c1:w3.cell? ⟨B,1,ez⟩=eC (vU ((v%18446744073709551616:Nat):Int)):=pQ.o.cell 1;have c2:w3.cell? ⟨B,2,ez⟩=eC (fS (eS (18446744073709551616<=v))):=pQ.o.cell 2;have hu:v%18446744073709551616<18446744073709551616:=Nat.mod_lt _ (by decide);have XP:af _:=HNX;clear HNX;generalize hU:v%18446744073709551616=u at *;have Yq:af (ak w3 B #[fS eE,vU (u:Int),fS (eS (18446744073709551616<=v))] 136):=by have:=pQ.o;unfold bE.xg at this;dsimp only at this;rw[hU]at this;exact this
     clear pQ;rcases hbs with rfl|rfl
     ·have HW:af (IntKind.u64.wrap (IntKind.u64.wrap ((u:Int)*10)+(d:Int))=(((v*10+d)%18446744073709551616:Nat):Int)):=by rw[af,XP.o.2,wrap64,wrap64];omega
      have KL:=ai (XP.o.1);clear XP;have HJ:af (ee m-(k+1)<ee m-k):=by rw[af];omega
      go_upto_region 13 with fail;generalize hq:eS ((18446744073709551615-(d:Int))/10<(u:Int))=qq at *
      have HQ:af (eS ((18446744073709551615-d)/10<u)=qq):=by
       rw[af,<-hq];by_cases e:(18446744073709551615-d)/10<u
       ·rw[decide_eq_true e,decide_eq_true (by omega)]
       ·rw[decide_eq_false e,decide_eq_false (by omega)]
      rw[HQ.o]at KL;clear HQ;generalize hbg:eS (18446744073709551616<=v)=bg at *;have tI:=ai Yq.o.drew;have Yr:=ai vH.o.drew;have gu:=ai xx.o.drew;refine bU 11 (by kernel_rfl) (by kernel_rfl) ?_;intro W hW;rw[<-hW]at tI Yr gu;clear hW;clear c1 c2 Yq vH xx;have c1:=tI.o.c1;have c2:=tI.o.c2;have cf:=tI.o.frozen;have hu':(u:Int)<18446744073709551616:=by omega
      have hdd:(d:Int)<=15:=by omega
      have HB3:af (ak ((W.setCell ⟨B,2,ez⟩ (fS (bg||qq))).setCell ⟨B,1,ez⟩ (vU (IntKind.u64.wrap (IntKind.u64.wrap ((u:Int)*10)+(d:Int))))) B (bE.xg ⟨v*10+d,eE⟩).toArray 136):=by have:=(tI.o.set 2 (fS (bg||qq))).set 1 (vU (IntKind.u64.wrap (IntKind.u64.wrap ((u:Int)*10)+(d:Int))));rw[HW.o]at this ⊢;unfold bE.xg;dsimp only;rw[KL.o];exact this
      have tJ:af (ak ((W.setCell ⟨B,2,ez⟩ (fS (bg||qq))).setCell ⟨B,1,ez⟩ (vU (IntKind.u64.wrap (IntKind.u64.wrap ((u:Int)*10)+(d:Int))))) R #[fS eE,vU 0,fS eE] 136):=(Yr.o.setOther (a:=⟨B,2,ez⟩) Ht.o _).setOther (a:=⟨B,1,ez⟩) Ht.o _;have eH:af (aa ah w ((W.setCell ⟨B,2,ez⟩ (fS (bg||qq))).setCell ⟨B,1,ez⟩ (vU (IntKind.u64.wrap (IntKind.u64.wrap ((u:Int)*10)+(d:Int)))))):=(gu.o.set (a:=⟨B,2,ez⟩) (.inr xu.o) _).set (a:=⟨B,1,ez⟩) (.inr xu.o) _;clear tI Yr gu KL HW hbg;simp only[ao,cw,ar,cx];cases bg with
      |true =>
       repeat(go_big_quiet_step (fail))
       refine lz ?_;go_wp2_with fail;go_roundg (ee m-(k+1))
       case measure=>exact HJ.o
       case rel=>exact⟨k+1,v*10+d,by go_num,HB3.o,tJ.o,eH.o,lq.o,by omega,rfl⟩
      |false =>
       repeat(go_big_quiet_step (fail))
       refine lz ?_;go_wp2_with fail;go_roundg (ee m-(k+1))
       case measure=>exact HJ.o
       case rel=>exact⟨k+1,v*10+d,by go_num,HB3.o,tJ.o,eH.o,lq.o,by omega,rfl⟩
     ·have HW:af (IntKind.u64.wrap (IntKind.u64.wrap ((u:Int)*16)+(d:Int))=(((v*16+d)%18446744073709551616:Nat):Int)):=by rw[af,XP.o.2,wrap64,wrap64];omega
      have KL:=ai (XP.o.1);clear XP;have HJ:af (ee m-(k+1)<ee m-k):=by rw[af];omega
      go_upto_region 13 with fail;generalize hq:eS ((18446744073709551615-(d:Int))/16<(u:Int))=qq at *
      have HQ:af (eS ((18446744073709551615-d)/16<u)=qq):=by
       rw[af,<-hq];by_cases e:(18446744073709551615-d)/16<u
       ·rw[decide_eq_true e,decide_eq_true (by omega)]
       ·rw[decide_eq_false e,decide_eq_false (by omega)]
      rw[HQ.o]at KL;clear HQ;generalize hbg:eS (18446744073709551616<=v)=bg at *;have tI:=ai Yq.o.drew;have Yr:=ai vH.o.drew;have gu:=ai xx.o.drew;refine bU 11 (by kernel_rfl) (by kernel_rfl) ?_;intro W hW;rw[<-hW]at tI Yr gu;clear hW;clear c1 c2 Yq vH xx;have c1:=tI.o.c1;have c2:=tI.o.c2;have cf:=tI.o.frozen;have hu':(u:Int)<18446744073709551616:=by omega
      have hdd:(d:Int)<=15:=by omega
      have HB3:af (ak ((W.setCell ⟨B,2,ez⟩ (fS (bg||qq))).setCell ⟨B,1,ez⟩ (vU (IntKind.u64.wrap (IntKind.u64.wrap ((u:Int)*16)+(d:Int))))) B (bE.xg ⟨v*16+d,eE⟩).toArray 136):=by have:=(tI.o.set 2 (fS (bg||qq))).set 1 (vU (IntKind.u64.wrap (IntKind.u64.wrap ((u:Int)*16)+(d:Int))));rw[HW.o]at this ⊢;unfold bE.xg;dsimp only;rw[KL.o];exact this
      have tJ:af (ak ((W.setCell ⟨B,2,ez⟩ (fS (bg||qq))).setCell ⟨B,1,ez⟩ (vU (IntKind.u64.wrap (IntKind.u64.wrap ((u:Int)*16)+(d:Int))))) R #[fS eE,vU 0,fS eE] 136):=(Yr.o.setOther (a:=⟨B,2,ez⟩) Ht.o _).setOther (a:=⟨B,1,ez⟩) Ht.o _;have eH:af (aa ah w ((W.setCell ⟨B,2,ez⟩ (fS (bg||qq))).setCell ⟨B,1,ez⟩ (vU (IntKind.u64.wrap (IntKind.u64.wrap ((u:Int)*16)+(d:Int)))))):=(gu.o.set (a:=⟨B,2,ez⟩) (.inr xu.o) _).set (a:=⟨B,1,ez⟩) (.inr xu.o) _;clear tI Yr gu KL HW hbg;simp only[ao,cw,ar,cx];cases bg with
      |true =>
       repeat(go_big_quiet_step (fail))
       refine lz ?_;go_wp2_with fail;go_roundg (ee m-(k+1))
       case measure=>exact HJ.o
       case rel=>exact⟨k+1,v*16+d,by go_num,HB3.o,tJ.o,eH.o,lq.o,by omega,rfl⟩
      |false =>
       repeat(go_big_quiet_step (fail))
       refine lz ?_;go_wp2_with fail;go_roundg (ee m-(k+1))
       case measure=>exact HJ.o
       case rel=>exact⟨k+1,v*16+d,by go_num,HB3.o,tJ.o,eH.o,lq.o,by omega,rfl⟩
   ·obtain rfl:k=ee m:=by omega
    have lq:af (nx=eC v):=by rw[af,HAk.o,bt];rfl
    have c0:wr.cell? ⟨B,0,ez⟩=eC (fS eE):=pQ.o.cell 0;have c1:wr.cell? ⟨B,1,ez⟩=eC (vU ((v%18446744073709551616:Nat):Int)):=pQ.o.cell 1;have c2:wr.cell? ⟨B,2,ez⟩=eC (fS (eS (18446744073709551616<=v))):=pQ.o.cell 2;have r0:=vH.o.c0;have r1:=vH.o.c1;have r2:=vH.o.c2;have rf:=vH.o.frozen;have K1:af (ak (((wr.setCell ⟨R,0,ez⟩ (fS eE)).setCell ⟨R,1,ez⟩ (vU ((v%18446744073709551616:Nat):Int))).setCell ⟨R,2,ez⟩ (fS (eS (18446744073709551616<=v)))) R #[fS eE,vU ((v%18446744073709551616:Nat):Int),fS (eS (18446744073709551616<=v))] 136):=((vH.o.set 0 _).set 1 _).set 2 _;have Po:af (aa ah w (((wr.setCell ⟨R,0,ez⟩ (fS eE)).setCell ⟨R,1,ez⟩ (vU ((v%18446744073709551616:Nat):Int))).setCell ⟨R,2,ez⟩ (fS (eS (18446744073709551616<=v))))):=by refine((xx.o.set (a:=⟨R,0,ez⟩) (.inr ?_) _).set (a:=⟨R,1,ez⟩) (.inr ?_) _).set (a:=⟨R,2,ez⟩) (.inr ?_) _<;>exact cI hRr
    have HEQ:af ((bE.mk v eE).fB=fW #[fS eE,vU ((v%18446744073709551616:Nat):Int),fS (eS (18446744073709551616<=v))]):=rfl;generalize((v%18446744073709551616:Nat):Int)=u at *;generalize eS (18446744073709551616<=v)=bg at *;go_wp2_with fail;refine iz (aw results351 _ _ R 136 _ (0,0) _ _ rfl rfl K1.o underlying136 rfl (by kernel_rfl)) rfl ⟨?_,Po.o⟩;rw[lq.o];show _=Ending.returned (gb #[(bE.mk v eE).fB,fS eJ])
    rw[HEQ.o];rfl
def AU:tAV:=#[fS eE,vU 0,fS eE]
theorem xy(b o:Nat)(cs:tAV)(t:gh)(l:tLB)(w:tW)(h:lN w b o cs t l)(hl:ee l<=1000000):fL prog 294 #[ia (eC ⟨b,o,ez⟩)] w λe w'=>e=fR (gb #[(bE.mk ((fA (aQ l).1).getD 0) eE).fB,fS (fA (aQ l).1).isSome])/\bG w b o cs t (aQ l).2 w':=by
 have m0:aa ah w (w.alloc (eR AU 136)):=aq;have HW:=ai (iA b o cs t l _ (h.ae m0) hl);have hle:=jY l;have HR:af (∀w',fL prog 351 #[eI (T (aQ l).1)] w' λe w''=>e=fR (gb #[(bE.mk ((fA (aQ l).1).getD 0) eE).fB,fS (fA (aQ l).1).isSome])/\aa ah w' w''):=λw'=>Pn _ w' (by omega);have hbl:=h.blk.lt;have HZ:=ai (ak.new w AU 136);generalize fA (aQ l).1=rx at *;generalize aQ l=wl at *;obtain⟨w1,w2⟩:=wl;simp only at *;have dU:=ai m0;clear m0;unfold bE.fB AU at *;dsimp only at *;generalize(((rx.getD 0)%18446744073709551616:Nat):Int)=u at *;generalize eS (18446744073709551616<=rx.getD 0)=bg at *;generalize hw0:w.alloc (eR #[fS eE,vU 0,fS eE] 136)=w0 at *;go_in;go_wp2_with fail;refine HW.o.mono ?_;rintro e wa ⟨rfl,hp⟩;have HP:=ai hp;have HZ1:=ai (HZ.o.ae hp.2 (λe=>by have:w.heap.size=b:=e;omega));clear hp HW HZ;go_wp2_with fail;refine(HR.o _).mono ?_;rintro e wb ⟨rfl,m1⟩;have xz:=ai (HP.o.quiet m1);have HZ2:=ai (HZ1.o.ae m1 id);clear HP HZ1 m1 HR;have z0:=HZ2.o.c0;have z1:=HZ2.o.c1;have z2:=HZ2.o.c2;have zf:=HZ2.o.frozen;go_wp2_with fail;refine iz (aw results294 _ _ w.heap.size 136 _ (0,0) _ _ rfl rfl (((HZ2.o.set 0 _).set 1 _).set 2 _) underlying136 rfl (by kernel_rfl)) rfl ⟨rfl,?_⟩;refine⟨⟨?_,xz.o.1.at'⟩,?_⟩
 ·iterate 3 refine ak.setOther ?_ (by simp;omega) _
  exact xz.o.1.blk
 ·iterate 3 refine aa.set ?_ (.inr (by simp)) _
  exact dU.o.of_nil.trans xz.o.2
theorem Yt(l:tLB)(hh:(bB 45 l&&(bC 45 l).head?==eC 32)=eE):gT l=(fA (aQ (bC 45 l)).1).map (λv=>(⟨v,bB 45 l⟩,(aQ (bC 45 l)).2)):=by unfold gT;rw[iN9 (by simp[hh])]
theorem Un(l:tLB):b5 [32] l=(l.head?==eC 32):=by
 cases l with
 |nil=>rfl
 |cons c r =>
  show((32==c)&&eJ)=_
  rw[Bool.and_true,Bool.eq_iff_iff,beq_iff_eq,beq_iff_eq,List.head?_cons,Option.some.injEq];exact eq_comm
def yK(w:tW)(b o:Nat)(cs:tAV)(t:gh)(l:tLB)(e:Ending)(w':tW):Prop :=
 ∃n l',e=fR (gb #[bE.fB n,fS (gT l).isSome])/\bG w b o cs t l' w'/\l'.length<=ee l/\∀x,gT l=eC x->x=(n,l')
theorem ue(b o:Nat)(cs:tAV)(t:gh)(l:tLB)(w:tW)(h:lN w b o cs t l)(hl:ee l<=1000000):fL prog 190 #[ia (eC ⟨b,o,ez⟩)] w λe w'=>yK w b o cs t l e w':=by
 have m0:aa ah w (w.alloc (eR AU 136)):=aq;have F5:=qK 45 l;have hwl:=jY (bC 45 l);have HW:af (fL prog 104 #[ia (eC ⟨b,o,ez⟩),vB 45] (w.alloc (eR AU 136)) λe w'=>e=fR (fS (bB 45 l))/\bG (w.alloc (eR AU 136)) b o cs t (bC 45 l) w'):=iY b o cs t l 45 _ (h.ae m0) hl;have Um:af (∀w',fL prog 293 #[eI (T (bC 45 l)),eI (T [32])] w' λe w''=>e=fR (fS ((bC 45 l).head?==eC 32))/\w''=w'):=λw'=>by rw[<-Un];exact Iz (bC 45 l) [32] w'
 have HR:=ai (λw' (hw':lN w' b o (cs.setIfInBounds o (.string (T (bC 45 l)))) t (bC 45 l))=>xy b o _ t (bC 45 l) w' hw' (by omega));have hbl:=h.blk.lt;have HZ:=ai (ak.new w AU 136);have HL1:af ((bB 45 l&&(bC 45 l).head?==eC 32)=eJ->gT l=ez):=λhh=>by unfold gT;rw[iP9 hh]
 have HL2:=ai (Yt l);have HNP:af (∀e w',(∃n l',e=fR (gb #[bE.fB n,fS (gT l).isSome])/\bG w b o cs t l' w'/\l'.length<=ee l/\∀x,gT l=eC x->x=(n,l'))->yK w b o cs t l e w'):=λ_ _ h=>h;generalize yK w b o cs t l=NP at *;generalize fA (aQ (bC 45 l)).1=rx at *;generalize aQ (bC 45 l)=wl at *;generalize bC 45 l=ml at *;generalize bB 45 l=hm at *;generalize gT l=nl at *;obtain⟨w1,w2⟩:=wl;simp only at *;have dU:=ai m0;clear m0;generalize hpq:(ml.head?==eC 32)=hq at *;have XQ:af (∀n,bE.fB n=fW #[fS n.minus,vU ((n.v%18446744073709551616:Nat):Int),fS (eS (18446744073709551616<=n.v))]):=λ_=>rfl;unfold AU at *;generalize hw0:w.alloc (eR #[fS eE,vU 0,fS eE] 136)=w0 at *;go_in;go_wp2_with fail;refine HW.o.mono ?_;rintro e wa ⟨rfl,hp⟩;have HP:=ai hp;have HZ1:=ai (HZ.o.ae hp.2 (λe=>by have:w.heap.size=b:=e;omega));clear hp HW HZ;have c0:=HP.o.1.cell;go_upto_region 2 with fail;go_cut [16] (λv wx=>v=fS (hm&&hq)/\wx=wa)
 case first =>
  cases hm with
  |true =>go_wp2_with fail;refine(Um.o _).mono ?_;rintro e wb ⟨rfl,rfl⟩;go_wp2_with fail;go_meet;exact⟨by simp,rfl⟩
  |false =>go_wp2_with fail;go_meet;exact⟨by simp,rfl⟩
 case rest =>
 obtain⟨rfl,rfl⟩:=hcut;have z0:=HZ1.o.c0;have z1:=HZ1.o.c1;have z2:=HZ1.o.c2;have zf:=HZ1.o.frozen;clear Um c0;by_cases hh:(hm&&hq)=eJ
 ·have HN:=ai (HL1.o hh);rw[hh];go_wp2_with fail;refine iz (aw results190 _ _ w.heap.size 136 _ (0,0) _ _ rfl rfl (((HZ1.o.set 0 _).set 1 _).set 2 _) underlying136 rfl (by kernel_rfl)) rfl ?_;refine HNP.o _ _ ⟨⟨0,eE⟩,ml,?_,⟨⟨?_,HP.o.1.at'⟩,?_⟩,F5,λx hx=>?_⟩
  ·rw[HN.o];rfl
  ·iterate 3 refine ak.setOther ?_ (by simp;omega) _
   exact HP.o.1.blk
  ·iterate 3 refine aa.set ?_ (.inr (by simp)) _
   exact dU.o.of_nil.trans HP.o.2
  ·rw[HN.o]at hx;cases hx
 ·have hh':(hm&&hq)=eE:=by simpa using hh
  have HN:=ai (HL2.o hh');rw[hh'];clear hh hh' HL1 HL2;have iO:=HR.o wc HP.o.1;rw[XQ.o]at iO;dsimp only at iO;generalize hu:(((rx.getD 0)%18446744073709551616:Nat):Int)=u at *;have KL:af (∀v,rx=eC v->rx.getD 0=v):=λv e=>by rw[e];rfl
  have HU:af (∀v,rx=eC v->bE.fB ⟨v,hm⟩=fW #[fS hm,vU u,fS (eS (18446744073709551616<=rx.getD 0))]):=λv e=>by rw[<-hu,XQ.o,e];rfl
  have HU0:af (bE.fB ⟨rx.getD 0,hm⟩=fW #[fS hm,vU u,fS (eS (18446744073709551616<=rx.getD 0))]):=by rw[af,<-hu,XQ.o]
  clear hu XQ HU;generalize eS (18446744073709551616<=rx.getD 0)=bg at *;have tJ:=ai iO;clear iO HR z0 z1 z2 zf;go_wp2_with fail;refine tJ.o.mono ?_;rintro e wd ⟨rfl,hp⟩;have pO:=ai (HP.o.after hp);have HZ2:=ai (HZ1.o.ae hp.2 (λe=>by have:w.heap.size=b:=e;omega));clear hp HZ1 HP tJ;have hlt:=HZ2.o.lt;have z0:=HZ2.o.c0;have z1:=HZ2.o.c1;have z2:=HZ2.o.c2;have zf:=HZ2.o.frozen;go_wp2_with fail;refine iz (aw results190 _ _ w.heap.size 136 _ (0,0) _ _ rfl rfl ((((HZ2.o.set 0 _).set 1 _).set 2 _).alloc _) underlying136 rfl (by kernel_rfl)) rfl ?_;refine HNP.o _ _ ⟨⟨rx.getD 0,hm⟩,w2,?_,⟨⟨?_,pO.o.1.at'⟩,?_⟩,by omega,λx hx=>?_⟩
  ·rw[HU0.o,HN.o,Option.isSome_map];rfl
  ·refine ak.alloc ?_ _
   iterate 3 refine ak.setOther ?_ (by simp;omega) _
   exact pO.o.1.blk
  ·refine aa.alloc ?_ _
   iterate 3 refine aa.set ?_ (.inr (by simp)) _
   exact dU.o.of_nil.trans pO.o.2
  ·rw[HN.o]at hx;obtain⟨v,hv,rfl⟩:=Option.map_eq_some_iff.1 hx;rw[KL.o v hv]
structure bO(w:tW)(b:Nat)(op:eM)(x:Option dA)(e:Ending)(w':tW):Prop where
 e:e=fR (fS x.isSome)
 md:aa (Only b) w w'
 at':∀r',x=eC r'->ak w' b (r'.cells op) 297
theorem lX{w:tW}{b:Nat}{op:eM}{r:dA}(h:ak w b (r.cells op) 297):lN w b 1 (r.cells op) 297 r.rest:=⟨h,rfl⟩
theorem bG.rd{w w':tW}{b:Nat}{op:eM}{r:dA}{l:tLB}(h:bG w b 1 (r.cells op) 297 l w'):ak w' b ({r with rest:=l}.cells op) 297:=h.1.blk
theorem Pp{c:UInt8}{r:dA}(h:bB c r.rest=eE):r.mark c=ez:=by unfold dA.mark;rw[iN9 (by simp[h])]
theorem Pq{c:UInt8}{r:dA}(h:bB c r.rest=eJ):r.mark c=eC {r with rest:=bC c r.rest}:=by unfold dA.mark;rw[iP9 h]
theorem K3(b g:Nat)(c:UInt8)(op:eM)(r:dA)(w:tW)(h:ak w b (r.cells op) 297)(hg:ak w g #[vB (c.toNat:Int)] 5)(hl:ee r.rest<=1000000):fL prog 296 #[vP b,vP g] w λe w'=>bO w b op (r.mark c) e w':=by
 have pW:=ai (λw' (h':ak w' b (r.cells op) 297)=>iY b 1 _ _ r.rest c w' (lX h') hl)
 have uf:af (∀e w',e=fR (fS (bB c r.rest))->bG w b 1 (r.cells op) 297 (bC c r.rest) w'->bO w b op (r.mark c) e w'):=λe w' he hp=>by
  cases hm:bB c r.rest with
  |true =>rw[Pq hm];exact⟨by rw[he,hm];rfl,hp.2,λr' hr'=>by cases hr';exact hp.rd⟩
  |false =>rw[Pp hm];exact⟨by rw[he,hm];rfl,hp.2,λr' hr'=>by cases hr'⟩
 generalize bO w b op (r.mark c)=RP at *;have HB:=ai h.drew;have g0:=hg.drew.c0;have HMD:af (∀w',bG w.drew b 1 (r.cells op) 297 (bC c r.rest) w'->bG w b 1 (r.cells op) 297 (bC c r.rest) w'):=λw' hp=>⟨hp.1,aU.trans hp.2⟩
 clear h hg;go_in;go_wp2_with fail;refine bU 4 (by kernel_rfl) (by kernel_rfl) ?_;intro W hW;rw[<-hW]at HB g0 HMD;clear hW;simp only[ao,cw,ar,cx]
 repeat(go_big_quiet_step (fail))
 refine lz ?_;go_wp2_with fail;refine(pW.o _ HB.o).mono ?_;rintro e w1 ⟨rfl,hp⟩;go_wp2_with fail;exact uf.o _ _ rfl (HMD.o _ hp)
theorem Yu(r:dA):r.BV=match dz (aQ r.rest).1 with|some n=>eC {r with d:=n,rest:=(aQ r.rest).2}|none=>ez:=by unfold dA.BV;cases dz (aQ r.rest).1<;>rfl
theorem Yv(r:dA):r.Ef=match dz (aQ r.rest).1 with|some n=>eC {r with s:=n,rest:=(aQ r.rest).2}|none=>ez:=by unfold dA.Ef;cases dz (aQ r.rest).1<;>rfl
theorem ED(b:Nat)(op:eM)(r:dA)(w:tW)(h:ak w b (r.cells op) 297)(hl:ee r.rest<=1000000)(hE:∀w',aa (Only b) w w'->Env w'):fL prog 229 #[vP b] w λe w'=>bO w b op r.BV e w':=by
 have pW:=ai (IA b 1 _ _ r.rest w (lX h) hl hE)
 have uf:af (∀e w',e=fR (fS (dz (aQ r.rest).1).isSome)->aa (Only b) w w'->ak w' b ({r with rest:=(aQ r.rest).2,d:=(dz (aQ r.rest).1).getD 0}.cells op) 297->bO w b op r.BV e w'):=λe w' he hm hp=>by
  rw[Yu];cases hx:dz (aQ r.rest).1 with
  |some n=>rw[hx]at he hp;exact⟨by rw[he];rfl,hm,λr' hr'=>by cases hr';exact hp⟩
  |none=>rw[hx]at he;exact⟨by rw[he];rfl,hm,λr' hr'=>by cases hr'⟩
 generalize bO w b op r.BV=RP at *;generalize dz (aQ r.rest).1=rx at *;go_in;go_wp2_with fail;refine pW.o.mono ?_;rintro e w1 ⟨rfl,hp⟩;have hb1:=hp.rd;have z3:w1.cell? ⟨b,3,ez⟩=eC (vB (r.d:Int)):=hb1.cell 3;have zf:=hb1.frozen;go_wp2_with fail;exact uf.o _ _ rfl (hp.2.bz 3 _) (hb1.set 3 _)
theorem Pr(b:Nat)(op:eM)(r:dA)(w:tW)(h:ak w b (r.cells op) 297)(hl:ee r.rest<=1000000)(hE:∀w',aa (Only b) w w'->Env w'):fL prog 194 #[vP b] w λe w'=>bO w b op r.Ef e w':=by
 have pW:=ai (IA b 1 _ _ r.rest w (lX h) hl hE)
 have uf:af (∀e w',e=fR (fS (dz (aQ r.rest).1).isSome)->aa (Only b) w w'->ak w' b ({r with rest:=(aQ r.rest).2,s:=(dz (aQ r.rest).1).getD 0}.cells op) 297->bO w b op r.Ef e w'):=λe w' he hm hp=>by
  rw[Yv];cases hx:dz (aQ r.rest).1 with
  |some n=>rw[hx]at he hp;exact⟨by rw[he];rfl,hm,λr' hr'=>by cases hr';exact hp⟩
  |none=>rw[hx]at he;exact⟨by rw[he];rfl,hm,λr' hr'=>by cases hr'⟩
 generalize bO w b op r.Ef=RP at *;generalize dz (aQ r.rest).1=rx at *;go_in;go_wp2_with fail;refine pW.o.mono ?_;rintro e w1 ⟨rfl,hp⟩;have hb1:=hp.rd;have z4:w1.cell? ⟨b,4,ez⟩=eC (vB (r.s:Int)):=hb1.cell 4;have zf:=hb1.frozen;go_wp2_with fail;exact uf.o _ _ rfl (hp.2.bz 4 _) (hb1.set 4 _)
theorem Uo{r:dA}(h:nameB (aQ r.rest).1=eE):r.lab=ez:=by unfold dA.lab;rw[iN9 (by simp[h])]
theorem Uq{r:dA}(h:nameB (aQ r.rest).1=eJ):r.lab=eC {r with label:=(aQ r.rest).1,rest:=(aQ r.rest).2}:=by unfold dA.lab;rw[iP9 h]
theorem Ps(b:Nat)(op:eM)(r:dA)(w:tW)(h:ak w b (r.cells op) 297)(hl:ee r.rest<=1000000):fL prog 232 #[vP b] w λe w'=>bO w b op r.lab e w':=by
 have pW:=ai (pV b 1 _ _ r.rest w (lX h) hl)
 have uf:af (∀e w',e=fR (fS (nameB (aQ r.rest).1))->aa (Only b) w w'->ak w' b ({r with rest:=(aQ r.rest).2,label:=(aQ r.rest).1}.cells op) 297->bO w b op r.lab e w'):=λe w' he hm hp=>by
  cases hx:nameB (aQ r.rest).1 with
  |true=>rw[Uq hx];exact⟨by rw[he,hx];rfl,hm,λr' hr'=>by cases hr';exact hp⟩
  |false=>rw[Uo hx];exact⟨by rw[he,hx];rfl,hm,λr' hr'=>by cases hr'⟩
 generalize bO w b op r.lab=RP at *;generalize nameB (aQ r.rest).1=rx at *;go_in;go_wp2_with fail;refine pW.o.mono ?_;rintro e w1 ⟨rfl,hp⟩;have hb1:=hp.rd;have z8:w1.cell? ⟨b,8,ez⟩=eC (eI (T r.label)):=hb1.cell 8;have zf:=hb1.frozen;go_wp2_with fail;exact uf.o _ _ rfl (hp.2.bz 8 _) (hb1.set 8 _)
def dA.F6(r:dA)(o:Option Int):dA:={r with far:=r.far||o.isNone}
theorem ug(b:Nat)(op:eM)(r:dA)(n:bE)(bits:Int)(half:Nat)(w:tW)(h:ak w b (r.cells op) 297)(hS:∀w,fL prog 268 #[n.fB,vI bits] w λe w'=>e=fR (gb #[vI ((n.dL half).getD 0),fS (n.dL half).isSome])/\aa ah w w'):fL prog 200 #[vP b,n.fB,vI bits] w λe w'=>e=fR (vI ((n.dL half).getD 0))/\ak w' b ((r.F6 (n.dL half)).cells op) 297/\aa (Only b) w w':=by
 have HS:=ai hS;have HF:af (∀w',ak w' b ({r with far:=r.far||!(n.dL half).isSome}.cells op) 297->ak w' b ((r.F6 (n.dL half)).cells op) 297):=λw' h'=>by unfold dA.F6;rw[<-cN];exact h'
 generalize(r.F6 (n.dL half)).cells op=fc at *;unfold bE.fB at *;generalize((n.v%18446744073709551616:Nat):Int)=u at *;generalize eS (18446744073709551616<=n.v)=bg at *;generalize n.dL half=sg at *;generalize n.minus=mi at *;clear hS;have h1:ak (w.alloc (eR #[fS mi,vU u,fS bg] 136)) b (r.cells op) 297:=h.alloc _;have HB:=ai h1;have HM:af (aa (Only b) w (w.alloc (eR #[fS mi,vU u,fS bg] 136))):=aq;clear h h1;go_in;go_wp2_with fail;refine(HS.o _).mono ?_;rintro e w1 ⟨rfl,m1⟩;have HB1:=ai (HB.o.ae m1 id);have dB:=ai (HM.o.trans m1.of_nil);clear m1 HB HM HS;have z10:=HB1.o.c10;have zf:=HB1.o.frozen;generalize hfr:r.far=fr at *;cases fr with
 |true =>
  go_wp2_with fail;go_ret;refine⟨rfl,HF.o _ ?_,dB.o.bz 10 _⟩;have:=HB1.o.set 10 (fS eJ);have e:(r.cells op).setIfInBounds 10 (fS eJ)=({r with far:=eJ||!sg.isSome}).cells op:=by unfold dA.cells;rfl
  rw[e]at this;exact this
 |false =>
  go_wp2_with fail;go_ret;refine⟨rfl,HF.o _ ?_,dB.o.bz 10 _⟩;have:=HB1.o.set 10 (fS sg.isNone);have e:(r.cells op).setIfInBounds 10 (fS sg.isNone)=({r with far:=eE||!sg.isSome}).cells op:=by unfold dA.cells;simp
  rw[e]at this;exact this
def dA.Ur(r:dA)(o:Option Nat):dA:={r with far:=r.far||o.isNone}
theorem Pv(b:Nat)(op:eM)(r:dA)(n:bE)(w:tW)(h:ak w b (r.cells op) 297):fL prog 312 #[vP b,n.fB] w λe w'=>e=fR (vU ((n.gH.getD 0:Nat):Int))/\ak w' b ((r.Ur n.gH).cells op) 297/\aa (Only b) w w':=by
 have HS:=ai (λw=>Ul n w);have HF:af (∀w',ak w' b ({r with far:=r.far||!n.gH.isSome}.cells op) 297->ak w' b ((r.Ur n.gH).cells op) 297):=λw' h'=>by unfold dA.Ur;rw[<-cN];exact h'
 generalize(r.Ur n.gH).cells op=fc at *;unfold bE.fB at *;generalize((n.v%18446744073709551616:Nat):Int)=u at *;generalize eS (18446744073709551616<=n.v)=bg at *;generalize n.gH=sg at *;generalize n.minus=mi at *;have h1:ak (w.alloc (eR #[fS mi,vU u,fS bg] 136)) b (r.cells op) 297:=h.alloc _;have HB:=ai h1;have HM:af (aa (Only b) w (w.alloc (eR #[fS mi,vU u,fS bg] 136))):=aq;clear h h1;go_in;go_wp2_with fail;refine(HS.o _).mono ?_;rintro e w1 ⟨rfl,m1⟩;have HB1:=ai (HB.o.ae m1 id);have dB:=ai (HM.o.trans m1.of_nil);clear m1 HB HM HS;have z10:=HB1.o.c10;have zf:=HB1.o.frozen;generalize hfr:r.far=fr at *;cases fr with
 |true =>
  go_wp2_with fail;go_ret;refine⟨rfl,HF.o _ ?_,dB.o.bz 10 _⟩;have:=HB1.o.set 10 (fS eJ);have e:(r.cells op).setIfInBounds 10 (fS eJ)=({r with far:=eJ||!sg.isSome}).cells op:=by unfold dA.cells;rfl
  rw[e]at this;exact this
 |false =>
  go_wp2_with fail;go_ret;refine⟨rfl,HF.o _ ?_,dB.o.bz 10 _⟩;have:=HB1.o.set 10 (fS sg.isNone);have e:(r.cells op).setIfInBounds 10 (fS sg.isNone)=({r with far:=eE||!sg.isSome}).cells op:=by unfold dA.cells;simp
  rw[e]at this;exact this
theorem mK(n:bE)(half:Nat)(hh:1<=half):-(half:Int)<=(n.dL half).getD 0/\(n.dL half).getD 0<half:=by
 unfold bE.dL;split
 ·simp;omega
 ·split
  ·split
   ·simp;omega
   ·simp;omega
  ·split
   ·simp;omega
   ·simp;omega
theorem Pw(b:Nat)(op:eM)(r:dA)(w:tW)(h:ak w b (r.cells op) 297)(hl:ee r.rest<=1000000):fL prog 199 #[vP b] w λe w'=>bO w b op r.number e w':=by
 have pW:=ai (ue b 1 _ _ r.rest w (lX h) hl)
 have uf:af (∀e w' n l',e=fR (fS (gT r.rest).isSome)->aa (Only b) w w'->(∀x,gT r.rest=eC x->x=(n,l'))->ak w' b ({r with rest:=l',num:=(n.dL 2147483648).getD 0,far:=r.far||(n.dL 2147483648).isNone}.cells op) 297->bO w b op r.number e w'):=λe w' n l' he hm hx hp=>by
  unfold dA.number;cases hn:gT r.rest with
  |some x =>have:=hx x hn;subst this;exact⟨by rw[he,hn];rfl,hm,λr' hr'=>by cases hr';exact hp⟩
  |none=>exact⟨by rw[he,hn];rfl,hm,λr' hr'=>by cases hr'⟩
 generalize bO w b op r.number=RP at *;have HNP:af (∀e w',yK w b 1 (r.cells op) 297 r.rest e w'->∃n l',e=fR (gb #[bE.fB n,fS (gT r.rest).isSome])/\bG w b 1 (r.cells op) 297 l' w'/\l'.length<=ee r.rest/\∀x,gT r.rest=eC x->x=(n,l')):=λ_ _ h=>h;generalize yK w b 1 (r.cells op) 297 r.rest=NP at *;generalize gT r.rest=nl at *;go_in;go_wp2_with fail;refine pW.o.mono ?_;intro e w1 hn;obtain⟨n,l',rfl,hp,hle,hx⟩:=HNP.o _ _ hn;have HX:=ai hx;clear hn hx pW HNP hle;have hr:=mK n 2147483648 (by omega);have HB1:af (∀cs,ak (w1.alloc (eR cs 136)) b ({r with rest:=l'}.cells op) 297):=λcs=>hp.rd.alloc _;have dB:af (∀cs,aa (Only b) w (w1.alloc (eR cs 136))):=λcs=>hp.2.alloc _;clear hp;have HS:=ai (λw' (h':ak w' b ({r with rest:=l'}.cells op) 297)=>ug b op _ n 32 2147483648 w' h' (FZ n));have aa7:=ai (λe w' he hm=>uf.o e w' n l' he hm HX.o);clear uf HX;unfold dA.F6 at *;generalize n.dL 2147483648=sg at *;unfold bE.fB at *;generalize((n.v%18446744073709551616:Nat):Int)=u at *;generalize eS (18446744073709551616<=n.v)=bg at *;generalize n.minus=mi at *;generalize hvv:sg.getD 0=vv at *;obtain⟨hr0,hr1⟩:=hr;go_wp2_with fail;refine(HS.o _ (HB1.o _)).mono ?_;rintro e w2 ⟨rfl,hb2,m2⟩;have dV:=ai ((dB.o _).trans m2);have z6:w2.cell? ⟨b,6,ez⟩=eC (vJ r.num):=hb2.cell 6;have zf:=hb2.frozen;have HB2:=ai hb2;clear hb2 m2 HB1 dB HS;go_wp2_with fail;exact aa7.o _ _ rfl (dV.o.bz 6 _) (HB2.o.set 6 _)
def dA.IB(r:dA)(l:tLB)(n:bE):dA:={r with jump:=(n.dL 32768).getD 0,far:=r.far||(n.dL 32768).isNone,rest:=l}
theorem Px{r:dA}(h:bB 45 r.rest=eJ):r.off=(fA (aQ (bC 45 r.rest)).1).map (λv=>r.IB (aQ (bC 45 r.rest)).2 ⟨v,eJ⟩):=by unfold dA.off dA.IB;rw[iP9 h]
theorem mM{c:UInt8}{l:tLB}(h:bB c l=eE):bC c l=aC l:=by unfold bC;rw[iN9 (by simp[h])]
theorem BZ(l:tLB):aC (aC l)=aC l:=by
 unfold aC;induction l with
 |nil=>rfl
 |cons c r ih =>
  rw[ab];split
  ·exact ih
  ·rename_i h;rw[ab,iN9 h]
theorem mh(c:UInt8)(l:tLB):bB c (aC l)=bB c l/\bC c (aC l)=bC c l:=by unfold bC bB;rw[BZ];exact⟨rfl,rfl⟩
theorem Us{r:dA}(h:bB 45 r.rest=eE)(hp:bB 43 r.rest=eJ):r.off=(fA (aQ (bC 43 r.rest)).1).map (λv=>r.IB (aQ (bC 43 r.rest)).2 ⟨v,eE⟩):=by unfold dA.off dA.IB;rw[iN9 (by simp[h]),iP9 hp]
theorem Ut{r:dA}(h:bB 45 r.rest=eE)(hp:bB 43 r.rest=eE):r.off=eC {r with rest:=aC r.rest}:=by unfold dA.off;rw[iN9 (by simp[h]),iN9 (by simp[hp])]
theorem Uu(b:Nat)(op:eM)(r:dA)(w:tW)(h:ak w b (r.cells op) 297)(hl:ee r.rest<=1000000)(hm:bB 45 r.rest=eJ):fL prog 250 #[vP b] w λe w'=>bO w b op r.off e w':=by
 have pW:af (fL prog 104 #[ia (eC ⟨b,1,ez⟩),vB 45] w λe w'=>e=fR (fS eJ)/\bG w b 1 (r.cells op) 297 (bC 45 r.rest) w'):=by have:=iY b 1 _ _ r.rest 45 w (lX h) hl;rw[hm]at this;exact this
 have F5:=qK 45 r.rest
 have uf:af (∀e w',e=fR (fS (fA (aQ (bC 45 r.rest)).1).isSome)->aa (Only b) w w'->ak w' b ((r.IB (aQ (bC 45 r.rest)).2 ⟨(fA (aQ (bC 45 r.rest)).1).getD 0,eJ⟩).cells op) 297->bO w b op r.off e w'):=λe w' he hmd hbk=>by
  rw[Px hm];cases hn:fA (aQ (bC 45 r.rest)).1 with
  |some v=>rw[hn]at he hbk;exact⟨by rw[he];rfl,hmd,λr' hr'=>by cases hr';exact hbk⟩
  |none=>rw[hn]at he;exact⟨by rw[he];rfl,hmd,λr' hr'=>by cases hr'⟩
 generalize bO w b op r.off=RP at *;generalize bC 45 r.rest=l0 at *;have XO:=ai (λw' (h':ak w' b ({r with rest:=l0}.cells op) 297)=>xy b 1 _ _ l0 w' (lX (r:={r with rest:=l0}) h') (by omega));generalize aQ l0=wl at *;obtain⟨l1,l2⟩:=wl;dsimp only at *;generalize fA l1=nn at *;have hr:=mK ⟨nn.getD 0,eJ⟩ 32768 (by omega);have HS:af (∀w',ak w' b ({r with rest:=l2}.cells op) 297->fL prog 200 #[vP b,(bE.mk (nn.getD 0) eJ).fB,vI 16] w' λe w''=>e=fR (vI (((bE.mk (nn.getD 0) eJ).dL 32768).getD 0))/\ak w'' b ((dA.F6 {r with rest:=l2} ((bE.mk (nn.getD 0) eJ).dL 32768)).cells op) 297/\aa (Only b) w' w''):=λw' h'=>ug b op _ _ 16 32768 w' h' (yI _);have HNG:af (∀w',fL prog 310 #[(bE.mk (nn.getD 0) eE).fB] w' λe w''=>e=fR (bE.mk (nn.getD 0) eJ).fB/\aa ah w' w''):=λw'=>AR ⟨_,eE⟩ w';unfold dA.F6 dA.IB at *;generalize(bE.mk (nn.getD 0) eJ).dL 32768=sg at *;unfold bE.fB at *;dsimp only at *;generalize(((nn.getD 0)%18446744073709551616:Nat):Int)=u at *;generalize eS (18446744073709551616<=nn.getD 0)=bg at *;generalize hvv:sg.getD 0=vv at *;obtain⟨hr0,hr1⟩:=hr;clear h hl F5;go_in;go_wp2_with fail;refine pW.o.mono ?_;rintro e w1 ⟨rfl,hp1⟩;have HB1:=ai hp1.rd;have dB:=ai (hp1.2);clear hp1 pW;go_wp2_with fail;refine(XO.o _ HB1.o).mono ?_;rintro e w2 ⟨rfl,hp2⟩;have HB2:af (∀cs,ak (w2.alloc (eR cs 136)) b ({r with rest:=l2}.cells op) 297):=λcs=>hp2.rd.alloc _;have dV:af (∀cs,aa (Only b) w (w2.alloc (eR cs 136))):=λcs=>(dB.o.trans hp2.2).alloc _;have HWs:=ai ((dB.o.trans hp2.2).size);have hbl:=hp2.1.blk.lt;clear hp2 HB1 dB XO;go_wp2_with fail;refine(HNG.o _).mono ?_;rintro e w3 ⟨rfl,m3⟩;have Tn:af (ak w3 w2.heap.size #[fS eE,vU u,fS bg] 136):=(ak.new w2 _ _).ae m3 id;have n0:=Tn.o.c0;have n1:=Tn.o.c1;have n2:=Tn.o.c2;have nf:=Tn.o.frozen;have HB3:=ai ((HB2.o _).ae m3 id);have eH:=ai ((dV.o _).trans m3.of_nil);clear m3 HB2 dV HNG;go_upto_region 7 with fail;generalize hW4:((w3.setCell ⟨w2.heap.size,0,ez⟩ (fS eJ)).setCell ⟨w2.heap.size,1,ez⟩ (vU u)).setCell ⟨w2.heap.size,2,ez⟩ (fS bg)=W4 at *;have Tp:af (ak W4 w2.heap.size #[fS eJ,vU u,fS bg] 136):=by rw[<-hW4];exact((Tn.o.set 0 _).set 1 _).set 2 _
 have iH:af (ak W4 b ({r with rest:=l2}.cells op) 297):=by
  rw[<-hW4]
  iterate 3 refine ak.setOther ?_ (by simp;omega) _
  exact HB3.o
 have jh:af (aa (Only b) w W4):=by
  rw[<-hW4]
  iterate 3 refine aa.set ?_ (.inr (by simpa using HWs.o)) _
  exact eH.o
 clear n0 n1 n2 nf Tn HB3 eH hW4;have n0:=Tp.o.c0;have n1:=Tp.o.c1;have n2:=Tp.o.c2;go_wp2_with fail;refine(HS.o _ iH.o).mono ?_;rintro e w5 ⟨rfl,hb5,m5⟩;have jr:=ai hb5;have jK:=ai (jh.o.trans m5);have z5:w5.cell? ⟨b,5,ez⟩=eC (.int .i16 r.jump):=hb5.cell 5;have zf:=hb5.frozen;clear hb5 m5 iH jh Tp n0 n1 n2 HS;go_wp2_with fail;exact uf.o _ _ rfl (jK.o.bz 5 _) (jr.o.set 5 _)
theorem Uv(b:Nat)(op:eM)(r:dA)(w:tW)(h:ak w b (r.cells op) 297)(hl:ee r.rest<=1000000)(hm:bB 45 r.rest=eE)(hp:bB 43 r.rest=eJ):fL prog 250 #[vP b] w λe w'=>bO w b op r.off e w':=by
 have pW:af (fL prog 104 #[ia (eC ⟨b,1,ez⟩),vB 45] w λe w'=>e=fR (fS eE)/\bG w b 1 (r.cells op) 297 (aC r.rest) w'):=by have:=iY b 1 _ _ r.rest 45 w (lX h) hl;rw[hm,mM hm]at this;exact this
 have Uw:af (∀w',ak w' b ({r with rest:=aC r.rest}.cells op) 297->fL prog 104 #[ia (eC ⟨b,1,ez⟩),vB 43] w' λe w''=>e=fR (fS eJ)/\bG w' b 1 ({r with rest:=aC r.rest}.cells op) 297 (bC 43 r.rest) w''):=λw' h'=>by have:=iY b 1 _ _ (aC r.rest) 43 w' (lX (r:={r with rest:=aC r.rest}) h') (by have:=iL r.rest;omega);rw[(mh 43 r.rest).1,(mh 43 r.rest).2,hp]at this;exact this
 have F5:=qK 43 r.rest
 have uf:af (∀e w',e=fR (fS (fA (aQ (bC 43 r.rest)).1).isSome)->aa (Only b) w w'->ak w' b ((r.IB (aQ (bC 43 r.rest)).2 ⟨(fA (aQ (bC 43 r.rest)).1).getD 0,eE⟩).cells op) 297->bO w b op r.off e w'):=λe w' he hmd hbk=>by
  rw[Us hm hp];cases hn:fA (aQ (bC 43 r.rest)).1 with
  |some v=>rw[hn]at he hbk;exact⟨by rw[he];rfl,hmd,λr' hr'=>by cases hr';exact hbk⟩
  |none=>rw[hn]at he;exact⟨by rw[he];rfl,hmd,λr' hr'=>by cases hr'⟩
 generalize bO w b op r.off=RP at *;generalize bC 43 r.rest=l0 at *;have XO:=ai (λw' (h':ak w' b ({r with rest:=l0}.cells op) 297)=>xy b 1 _ _ l0 w' (lX (r:={r with rest:=l0}) h') (by omega));generalize aQ l0=wl at *;obtain⟨l1,l2⟩:=wl;dsimp only at *;generalize fA l1=nn at *;have hr:=mK ⟨nn.getD 0,eE⟩ 32768 (by omega);have HS:af (∀w',ak w' b ({r with rest:=l2}.cells op) 297->fL prog 200 #[vP b,(bE.mk (nn.getD 0) eE).fB,vI 16] w' λe w''=>e=fR (vI (((bE.mk (nn.getD 0) eE).dL 32768).getD 0))/\ak w'' b ((dA.F6 {r with rest:=l2} ((bE.mk (nn.getD 0) eE).dL 32768)).cells op) 297/\aa (Only b) w' w''):=λw' h'=>ug b op _ _ 16 32768 w' h' (yI _);have HNG:af (∀w',fL prog 310 #[(bE.mk (nn.getD 0) eE).fB] w' λe w''=>e=fR (bE.mk (nn.getD 0) eJ).fB/\aa ah w' w''):=λw'=>AR ⟨_,eE⟩ w';unfold dA.F6 dA.IB at *;generalize(bE.mk (nn.getD 0) eE).dL 32768=sg at *;unfold bE.fB at *;dsimp only at *;generalize(((nn.getD 0)%18446744073709551616:Nat):Int)=u at *;generalize eS (18446744073709551616<=nn.getD 0)=bg at *;generalize hvv:sg.getD 0=vv at *;obtain⟨hr0,hr1⟩:=hr;clear h hl F5;go_in;go_wp2_with fail;refine pW.o.mono ?_;rintro e w0 ⟨rfl,hp0⟩;have HB0:=ai hp0.rd;have dU:=ai (hp0.2);clear hp0 pW;go_wp2_with fail;refine(Uw.o _ HB0.o).mono ?_;rintro e w1 ⟨rfl,hp1⟩;have HB1:=ai hp1.rd;have dB:=ai (dU.o.trans hp1.2);clear hp1 Uw HB0 dU;go_wp2_with fail;refine(XO.o _ HB1.o).mono ?_;rintro e w2 ⟨rfl,hp2⟩;have HB2:af (∀cs,ak (w2.alloc (eR cs 136)) b ({r with rest:=l2}.cells op) 297):=λcs=>hp2.rd.alloc _;have dV:af (∀cs,aa (Only b) w (w2.alloc (eR cs 136))):=λcs=>(dB.o.trans hp2.2).alloc _;have HWs:=ai ((dB.o.trans hp2.2).size);have hbl:=hp2.1.blk.lt;clear hp2 HB1 dB XO;go_upto_region 7 with fail;have Tp:=ai (ak.new w2 #[fS eE,vU u,fS bg] 136);have iH:af (ak (w2.alloc (eR #[fS eE,vU u,fS bg] 136)) b ({r with rest:=l2}.cells op) 297):=HB2.o _;have jh:af (aa (Only b) w (w2.alloc (eR #[fS eE,vU u,fS bg] 136))):=dV.o _;clear HB2 dV;generalize w2.alloc (eR #[fS eE,vU u,fS bg] 136)=W4 at *;have n0:=Tp.o.c0;have n1:=Tp.o.c1;have n2:=Tp.o.c2;go_wp2_with fail;refine(HS.o _ iH.o).mono ?_;rintro e w5 ⟨rfl,hb5,m5⟩;have jr:=ai hb5;have jK:=ai (jh.o.trans m5);have z5:w5.cell? ⟨b,5,ez⟩=eC (.int .i16 r.jump):=hb5.cell 5;have zf:=hb5.frozen;clear hb5 m5 iH jh Tp n0 n1 n2 HS;go_wp2_with fail;exact uf.o _ _ rfl (jK.o.bz 5 _) (jr.o.set 5 _)
theorem Ux(b:Nat)(op:eM)(r:dA)(w:tW)(h:ak w b (r.cells op) 297)(hl:ee r.rest<=1000000)(hm:bB 45 r.rest=eE)(hp:bB 43 r.rest=eE):fL prog 250 #[vP b] w λe w'=>bO w b op r.off e w':=by
 have pW:af (fL prog 104 #[ia (eC ⟨b,1,ez⟩),vB 45] w λe w'=>e=fR (fS eE)/\bG w b 1 (r.cells op) 297 (aC r.rest) w'):=by have:=iY b 1 _ _ r.rest 45 w (lX h) hl;rw[hm,mM hm]at this;exact this
 have Uw:af (∀w',ak w' b ({r with rest:=aC r.rest}.cells op) 297->fL prog 104 #[ia (eC ⟨b,1,ez⟩),vB 43] w' λe w''=>e=fR (fS eE)/\bG w' b 1 ({r with rest:=aC r.rest}.cells op) 297 (aC r.rest) w''):=λw' h'=>by have:=iY b 1 _ _ (aC r.rest) 43 w' (lX (r:={r with rest:=aC r.rest}) h') (by have:=iL r.rest;omega);rw[(mh 43 r.rest).1,(mh 43 r.rest).2,hp,mM hp]at this;exact this
 have uf:af (∀e w',e=fR (fS eJ)->aa (Only b) w w'->ak w' b ({r with rest:=aC r.rest}.cells op) 297->bO w b op r.off e w'):=λe w' he hmd hb=>by rw[Ut hm hp];exact⟨by rw[he];rfl,hmd,λr' hr'=>by cases hr';exact hb⟩
 generalize bO w b op r.off=RP at *;clear h hl;go_in;go_wp2_with fail;refine pW.o.mono ?_;rintro e w0 ⟨rfl,hp0⟩;have HB0:=ai hp0.rd;have dU:=ai (hp0.2);clear hp0 pW;go_wp2_with fail;refine(Uw.o _ HB0.o).mono ?_;rintro e w1 ⟨rfl,hp1⟩;have HB1:=ai hp1.rd;have dB:=ai (dU.o.trans hp1.2);clear hp1 Uw HB0 dU;go_wp2_with fail;exact uf.o _ _ rfl dB.o HB1.o
theorem Py(b:Nat)(op:eM)(r:dA)(w:tW)(h:ak w b (r.cells op) 297)(hl:ee r.rest<=1000000):fL prog 250 #[vP b] w λe w'=>bO w b op r.off e w':=by
 cases hm:bB 45 r.rest with
 |true=>exact Uu b op r w h hl hm
 |false =>
  cases hp:bB 43 r.rest with
  |true=>exact Uv b op r w h hl hm hp
  |false=>exact Ux b op r w h hl hm hp
theorem Uy{r:dA}(h:(aQ r.rest).1=[109,97,112]):r.wide=if nameB (aQ (aQ r.rest).2).1 then eC {r with s:=1,name:=(aQ (aQ r.rest).2).1,rest:=(aQ (aQ r.rest).2).2}else ez:=by unfold dA.wide;rw[iP9 h]
theorem Uz{r:dA}(h:(aQ r.rest).1≠[109,97,112]):r.wide=(gT r.rest).map (λx=>{r with num:=xq (x.1.gH.getD 0),high:=xq ((x.1.gH.getD 0)/4294967296),far:=r.far||x.1.gH.isNone,rest:=x.2}):=by unfold dA.wide;rw[iN9 h]
theorem Pz(b:Nat)(op:eM)(r:dA)(w:tW)(h:ak w b (r.cells op) 297)(hl:ee r.rest<=1000000)(hm:(aQ r.rest).1=[109,97,112]):fL prog 256 #[vP b] w λe w'=>bO w b op r.wide e w':=by
 have hwl:=jY r.rest;have hq:((T [109,97,112]).toList==[109,97,112])=eJ:=gi rfl;have HB0:af (ak (w.alloc (eR #[eI (T r.rest)] 211)) b (r.cells op) 297):=h.alloc _;have Tq:af (lN (w.alloc (eR #[eI (T r.rest)] 211)) w.heap.size 0 #[eI (T r.rest)] 211 r.rest):=⟨ak.new w _ _,rfl⟩
 have HW:af (fL prog 103 #[vP (w.heap.size)] (w.alloc (eR #[eI (T r.rest)] 211)) λe w'=>e=fR (eI (T [109,97,112]))/\bG (w.alloc (eR #[eI (T r.rest)] 211)) w.heap.size 0 #[eI (T r.rest)] 211 (aQ r.rest).2 w'):=by have:=iA w.heap.size 0 _ _ r.rest _ Tq.o hl;rw[hm]at this;exact this
 have HN:=ai (λw' (h':lN w' w.heap.size 0 #[.string (T (aQ r.rest).2)] 211 (aQ r.rest).2)=>pV _ 0 _ _ _ w' h' (by omega))
 have uf:af (∀e w',e=fR (fS (nameB (aQ (aQ r.rest).2).1))->aa (Only b) w w'->ak w' b ({r with s:=1,name:=(aQ (aQ r.rest).2).1,rest:=(aQ (aQ r.rest).2).2}.cells op) 297->bO w b op r.wide e w'):=λe w' he hmd hbk=>by
  rw[Uy hm];cases hn:nameB (aQ (aQ r.rest).2).1 with
  |true=>rw[hn]at he;exact⟨by rw[he];rfl,hmd,λr' hr'=>by cases hr';exact hbk⟩
  |false=>rw[hn]at he;exact⟨by rw[he];rfl,hmd,λr' hr'=>by cases hr'⟩
 generalize bO w b op r.wide=RP at *;generalize nameB (aQ (aQ r.rest).2).1=nb at *;generalize aQ (aQ r.rest).2=w2 at *;generalize aQ r.rest=w1 at *;obtain⟨n2,l2⟩:=w2;obtain⟨n1,l1⟩:=w1;dsimp only at *;have c1:=h.c1;have hbl:=h.lt;have HWs:af (aa (Only b) w (w.alloc (eR #[eI (T r.rest)] 211))):=aq;clear h hwl hl;go_in;go_wp2_with fail;refine HW.o.mono ?_;rintro e wa ⟨rfl,hp1⟩;have HL1:=ai hp1.1;have HB1:=ai (HB0.o.ae hp1.2 (λe=>by have:b=w.heap.size:=e;omega));have dB:=ai (HWs.o.step hp1.2 (λi hi e=>by have:i=w.heap.size:=e;omega));clear hp1 Tq HB0 HWs HW;go_wp2_with fail;refine(HN.o _ HL1.o).mono ?_;rintro e wb ⟨rfl,hp2⟩;have HL2:=ai hp2.1;have HB2:=ai (HB1.o.ae hp2.2 (λe=>by have:b=w.heap.size:=e;omega));have dV:=ai (dB.o.step hp2.2 (λi hi e=>by have:i=w.heap.size:=e;omega));clear hp2 HL1 HB1 dB HN;have x0:=HL2.o.cell;have z1:=HB2.o.c1;have z4:=HB2.o.c4;have z9:=HB2.o.c9;have zf:=HB2.o.frozen;go_wp2_with fail;exact uf.o _ _ rfl (((dV.o.bz 1 _).bz 4 _).bz 9 _) (((HB2.o.set 1 _).set 4 _).set 9 _)
theorem Yw(v:Nat):Go.RowKit.wrap32 ((v:Int)%4294967296)=xq v:=by unfold xq Go.RowKit.wrap32;omega
theorem UA(v:Nat):Go.RowKit.wrap32 ((v:Int)/4294967296)=xq (v/4294967296):=by unfold xq Go.RowKit.wrap32;omega
theorem PB(b:Nat)(op:eM)(r:dA)(w:tW)(h:ak w b (r.cells op) 297)(hl:ee r.rest<=1000000)(hm:(aQ r.rest).1≠[109,97,112]):fL prog 256 #[vP b] w λe w'=>bO w b op r.wide e w':=by
 have hq:=fP (λe=>hm (px e));have HB0:af (ak (w.alloc (eR #[eI (T r.rest)] 211)) b (r.cells op) 297):=h.alloc _;have Tq:af (lN (w.alloc (eR #[eI (T r.rest)] 211)) w.heap.size 0 #[eI (T r.rest)] 211 r.rest):=⟨ak.new w _ _,rfl⟩
 have HW:=ai (iA w.heap.size 0 _ _ r.rest _ Tq.o hl);have pW:=ai (λw' (h':ak w' b (r.cells op) 297)=>ue b 1 _ _ r.rest w' (lX h') hl)
 have uf:af (∀e w' n l',e=fR (fS (gT r.rest).isSome)->aa (Only b) w w'->(∀x,gT r.rest=eC x->x=(n,l'))->ak w' b ({r with num:=xq (n.gH.getD 0),high:=xq ((n.gH.getD 0)/4294967296),far:=r.far||n.gH.isNone,rest:=l'}.cells op) 297->bO w b op r.wide e w'):=λe w' n l' he hmd hx hp=>by
  rw[Uz hm];cases hn:gT r.rest with
  |some x =>have:=hx x hn;subst this;exact⟨by rw[he,hn];rfl,hmd,λr' hr'=>by cases hr';exact hp⟩
  |none=>exact⟨by rw[he,hn];rfl,hmd,λr' hr'=>by cases hr'⟩
 generalize bO w b op r.wide=RP at *;generalize aQ r.rest=w1 at *;obtain⟨n1,l1⟩:=w1;dsimp only at *;have c1:=h.c1;have hbl:=h.lt;have HWs:af (aa (Only b) w (w.alloc (eR #[eI (T r.rest)] 211))):=aq;clear h hl;go_in;go_wp2_with fail;refine HW.o.mono ?_;rintro e wa ⟨rfl,hp1⟩;have HB1:=ai (HB0.o.ae hp1.2 (λe=>by have:b=w.heap.size:=e;omega));have dB:=ai (HWs.o.step hp1.2 (λi hi e=>by have:i=w.heap.size:=e;omega));clear hp1 Tq HB0 HWs HW;go_wp2_with fail;refine(pW.o _ HB1.o).mono ?_;intro e wb hn;obtain⟨n,l',rfl,hp2,hle,hx⟩:=hn;have aa7:=ai (λe w' he hm=>uf.o e w' n l' he hm hx);have HB2:af (∀cs,ak (wb.alloc (eR cs 136)) b ({r with rest:=l'}.cells op) 297):=λcs=>hp2.rd.alloc _;have dV:af (∀cs,aa (Only b) w (wb.alloc (eR cs 136))):=λcs=>(dB.o.trans hp2.2).alloc _;have HS:=ai (λw' (h':ak w' b ({r with rest:=l'}.cells op) 297)=>Pv b op _ n w' h')
 have hwd:n.gH.getD 0<18446744073709551616:=by
  unfold bE.gH;split
  ·simp
  ·split
   ·split
    ·simp;omega
    ·simp
   ·simp;omega
 clear hp2 hx hle uf pW HB1 dB;unfold dA.Ur at *;generalize n.gH=sg at *;generalize gT r.rest=nl at *;unfold bE.fB at *;generalize((n.v%18446744073709551616:Nat):Int)=u at *;generalize eS (18446744073709551616<=n.v)=bg at *;generalize n.minus=mi at *;have HL:af (Go.RowKit.wrap32 (((sg.getD 0:Nat):Int)%4294967296)=xq (sg.getD 0)):=Yw _;have HH:af (Go.RowKit.wrap32 (((sg.getD 0:Nat):Int)/4294967296)=xq ((sg.getD 0)/4294967296)):=UA _;generalize hvv:sg.getD 0=vv at *;have hv1:(vv:Int)<18446744073709551616:=by omega
 go_wp2_with fail;refine(HS.o _ (HB2.o _)).mono ?_;rintro e wd ⟨rfl,hb5,m5⟩;have jr:=ai hb5;have jK:=ai ((dV.o _).trans m5);have z6:wd.cell? ⟨b,6,ez⟩=eC (vJ r.num):=hb5.cell 6;have z7:wd.cell? ⟨b,7,ez⟩=eC (vJ r.high):=hb5.cell 7;have zf:=hb5.frozen;clear hb5 m5 HB2 dV HS;go_wp2_with fail;refine aa7.o _ _ rfl ((jK.o.bz 6 _).bz 7 _) ?_;rw[HL.o,HH.o];exact(jr.o.set 6 _).set 7 _
theorem K4(b:Nat)(op:eM)(r:dA)(w:tW)(h:ak w b (r.cells op) 297)(hl:ee r.rest<=1000000):fL prog 256 #[vP b] w λe w'=>bO w b op r.wide e w':=by
 by_cases hm:(aQ r.rest).1=[109,97,112]
 ·exact Pz b op r w h hl hm
 ·exact PB b op r w h hl hm
