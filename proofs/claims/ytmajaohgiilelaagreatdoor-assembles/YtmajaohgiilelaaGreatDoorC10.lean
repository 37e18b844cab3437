import Derived.Test.YtmajaohgiilelaaGreatDoorC03
import Derived.Test.YtmajaohgiilelaaGreatDoorC09
namespace Go.Proofs.YtmajaohgiilelaaGreatDoor
open Go.RowKit Tryz
open _root_.Array renaming toList_extract->cd
open Lib renaming itoa->ch
open List renaming take_succ_cons->ao,drop_succ_cons->ar,extract_eq_take_drop->ba,drop_length->bh,isPrefixOf->bj,take_of_length_le->bt,dropWhile_sublist->ca,take_zero->cb,drop_zero->cc,takeWhile_cons->cj,dropWhile_cons->cr,take_length->cD
open Nat renaming mod_eq_of_lt->an,zero_le->b9,lt_or_ge->cw,le_of_eq->cx
open Option renaming not_isSome->cy
set_option linter.all false
set_option maxRecDepth 100000
set_option maxHeartbeats 2000000
theorem MC(l:tLB)(n:Nat):(T l).extract 0 n=T (l.take n):=by
 have:((T l).extract 0 n).data.toList=l.take n:=by rw[ByteArray.data_extract,cd,ba];simp[T]
 rw[<-this];rfl
theorem Df(l:tLB)(n:Nat):(T l).extract n (T l).size=T (l.drop n):=by
 have:((T l).extract n (T l).size).data.toList=l.drop n:=by
  rw[ByteArray.data_extract,cd,ba];rw[bZ];show(l.drop n).take (l.length-n)=l.drop n
  exact bt (by simp)
 rw[<-this];rfl
theorem qm:(T []).toList.isEmpty=true:=iH rfl
theorem kV(b:UInt8)(l:tLB):(T (b::l)).toList.isEmpty=false:=je (by rw[bZ];simp)
theorem rQ(c:Int)(w:tW):Calls prog 131 #[.int .u8 c] w λe w'=>e=.returned (.bool (di c))/\w'=w:=by
 by_cases h1:97<=c
 ·go_enter func131,ntmps131;go_wp2;go_ret;exact⟨by simp[di,h1],rfl⟩
 ·go_enter func131,ntmps131;go_wp2;go_ret;exact⟨by simp[di];omega,rfl⟩
theorem oQ(c:Int)(w:tW):Calls prog 226 #[.int .u8 c] w λe w'=>e=.returned (.bool (aS c))/\w'=w:=by
 by_cases h1:48<=c
 ·go_enter func226,ntmps226;go_wp2;go_ret;exact⟨by simp[aS,h1],rfl⟩
 ·go_enter func226,ntmps226;go_wp2;go_ret;exact⟨by simp[aS];omega,rfl⟩
theorem nL(c:Int)(w:tW):Calls prog 130 #[.int .u8 c] w λe w'=>e=.returned (.bool (jd c))/\w'=w:=by
 cases hd:aS c<;>cases hs:di c
 all_goals
  go_enter func130,ntmps130;go_wp2_with (first |(go_at_call 226;refine(oQ _ _).mono ?_;rintro e w' ⟨rfl,rfl⟩) |(go_at_call 131;refine(rQ _ _).mono ?_;rintro e w' ⟨rfl,rfl⟩));go_ret;exact⟨by simp[jd,hd,hs],rfl⟩
theorem BB(s:tBA)(w:tW)(hs:s.size<=maxLen):Calls prog 75 #[.string s] w λe w'=>e=.returned (.bool (ahI s.data.toList))/\w'=w:=by
 unfold maxLen at hs;by_cases h0:0<s.size
 ·have he:=je h0;have HN:ae (_=_):=Ka h0;by_cases h1:s.size<=16
  ·have hb:((s.size:Int)<=16):=by omega
   cases h2:di (s[0].toNat:Int)with
   |false =>go_enter func75,ntmps75;go_wp2_with (go_at_call 131;refine(rQ _ _).mono ?_;rintro e w' ⟨rfl,rfl⟩);go_ret;exact⟨fo (by rw[HN.o,h2];simp),rfl⟩
   |true =>
    go_enter func75,ntmps75;go_wp2_with (go_at_call 131;refine(rQ _ _).mono ?_;rintro e w' ⟨rfl,rfl⟩);go_loop [19] (λi=>∃k:Nat,k<=s.size/\i=.int .i64 k/\(s.data.toList.take k).all (λc=>jd (c.toNat:Int))=true) (λi=>s.size-(intOf i).toNat)
    case atStart=>exact⟨0,b9 _,rfl,rfl⟩
    case round =>
     obtain⟨k,hk,rfl,hall⟩:=hrel;have HA:=ak hall;clear hall;by_cases hlt:k<s.size
     ·cases hp:jd (s[k].toNat:Int)with
      |false =>go_wp2_with (go_at_call 130;refine(nL _ _).mono ?_;rintro e w' ⟨rfl,rfl⟩);go_ret;exact⟨fo (by rw[HN.o,C9 hlt hp];simp),rfl⟩
      |true =>
       go_wp2_with (go_at_call 130;refine(nL _ _).mono ?_;rintro e w' ⟨rfl,rfl⟩);go_round
       case rel=>exact⟨k+1,by omega,by go_num,by rw[Gg s k hlt];simp[HA.o,hp]⟩
       case measure=>simp[intOf];omega
     ·go_wp2;go_ret;have ht:s.data.toList.take k=s.data.toList:=bt (by simp;omega);exact⟨fo (by rw[HN.o,h2,<-ht,HA.o];simp[h1]),rfl⟩
  ·have hb:¬((s.size:Int)<=16):=by omega
   go_enter func75,ntmps75;go_wp2_with (go_at_call 131;refine(rQ _ _).mono ?_;rintro e w' ⟨rfl,rfl⟩);go_ret;exact⟨fo (by rw[HN.o];simp[h1]),rfl⟩
 ·have he:=iH (s:=s) (by omega);have hz:ae (_=_):=C8 (s:=s) (by omega);go_enter func75,ntmps75;go_wp2;go_ret;exact⟨fo hz.o.symm,rfl⟩
structure mX(w:tW)(b o:Nat)(cs:tAV)(t:TypeId)(l:tLB):Prop where
 blk:aq w b cs t
 at':cs[o]?=some (.string (T l))
theorem mX.set{w:tW}{b o:Nat}{cs:tAV}{t:TypeId}{l:tLB}(h:mX w b o cs t l)(l':tLB):mX (w.setCell ⟨b,o,none⟩ (.string (T l'))) b o (cs.setIfInBounds o (.string (T l'))) t l' :=
 ⟨h.blk.set o _,by
  have:o<cs.size:=(Array.getElem?_eq_some_iff.1 h.at').1;simp[Array.getElem?_setIfInBounds,this]⟩
theorem mX.cell{w:tW}{b o:Nat}{cs:tAV}{t:TypeId}{l:tLB}(h:mX w b o cs t l):w.cell? ⟨b,o,none⟩=some (.string (T l)):=(h.blk.cell o).trans h.at'
theorem mX.frozen{w:tW}{b o:Nat}{cs:tAV}{t:TypeId}{l:tLB}(h:mX w b o cs t l):w.frozen? ⟨b,o,none⟩=false:=h.blk.frozen o
theorem mX.ah{w w':tW}{b o:Nat}{cs:tAV}{t:TypeId}{l:tLB}(h:mX w b o cs t l)(m:aa af w w'):mX w' b o cs t l:=⟨h.blk.ah m id,h.at'⟩
theorem set_set(cs:tAV)(o:Nat)(v v':Value):(cs.setIfInBounds o v).setIfInBounds o v'=cs.setIfInBounds o v':=by
 apply Array.ext
 ·simp
 ·intro i h1 h2;simp only[Array.size_setIfInBounds]at h1 h2;by_cases e:o=i<;>simp[Array.getElem_setIfInBounds,e]
theorem Q6(l:tLB)(w:tW):Calls prog 225 #[.string (T l),.string ⟨#[32]⟩] w λe w'=>e=.returned (.string (T (aw l)))/\w'=w:=by
 have h:=Any.strings_TrimLeft_one lt (T l) 32 (by decide) w;have e:(T l).data.toList=l:=by simp[T]
 rw[e]at h;exact h
theorem Ki(l p:tLB)(w:tW):Calls prog 228 #[.string (T l),.string (T p)] w λe w'=>e=.returned (.bool (p.isPrefixOf l))/\w'=w:=by
 have h:=Any.strings_HasPrefix lp (T l) (T p) w;have e:∀l,(T l).data.toList=l:=λl=>by simp[T]
 rw[e,e]at h;exact h
theorem Dg(b o:Nat)(cs:tAV)(t:TypeId)(l:tLB)(w:tW)(h:mX w b o cs t l):Calls prog 129 #[.pointer (some ⟨b,o,none⟩)] w λe w'=>e=.returned (.tuple #[])/\w'=w.setCell ⟨b,o,none⟩ (.string (T (aw l))):=by have c0:=h.cell;have f0:=h.frozen;go_enter func129,ntmps129;go_wp2_with fail;refine(Q6 l _).mono ?_;rintro e w1 ⟨rfl,rfl⟩;go_wp2_with fail;go_end0;exact⟨rfl,rfl⟩
def aN(w:tW)(b o:Nat)(cs:tAV)(t:TypeId)(l':tLB)(w':tW):Prop:=mX w' b o (cs.setIfInBounds o (.string (T l'))) t l'/\aa (Only b) w w'
theorem kW(b o:Nat)(cs:tAV)(t:TypeId)(l:tLB)(w:tW)(h:mX w b o cs t l):Calls prog 72 #[.pointer (some ⟨b,o,none⟩)] w λe w'=>e=.returned (.bool (decide (aw l=[])))/\aN w b o cs t (aw l) w':=by
 have HP:ae (aN w b o cs t (aw l) (w.setCell ⟨b,o,none⟩ (.string (T (aw l))))):=⟨h.set _,(aa.refl _ _).bP o _⟩
 have c1:=(h.set (aw l)).cell;have HK:ae (Calls prog 129 #[.pointer (some ⟨b,o,none⟩)] w λe w'=>e=.returned (.tuple #[])/\w'=w.setCell ⟨b,o,none⟩ (.string (T (aw l)))):=Dg b o cs t l w h;generalize aw l=m at *;cases m with
 |nil =>have he:=qm;go_enter func72,ntmps72;go_wp2_with fail;refine HK.o.mono ?_;rintro e w1 ⟨rfl,rfl⟩;go_wp2_with fail;go_ret;exact⟨by simp,HP.o⟩
 |cons c m =>have he:=kV c m;go_enter func72,ntmps72;go_wp2_with fail;refine HK.o.mono ?_;rintro e w1 ⟨rfl,rfl⟩;go_wp2_with fail;go_ret;exact⟨by simp,HP.o⟩
theorem iY(l:tLB):(aw l).length<=l.length:=(ca _).length_le
theorem jh(b o:Nat)(cs:tAV)(t:TypeId)(l:tLB)(c:UInt8)(w:tW)(h:mX w b o cs t l)(hl:l.length<=1000000):Calls prog 74 #[.pointer (some ⟨b,o,none⟩),.int .u8 (c.toNat:Int)] w λe w'=>e=.returned (.bool (aH c l))/\aN w b o cs t (aL c l) w':=by
 have h1:=h.set (aw l);have HP:ae (aN w b o cs t (aw l) (w.setCell ⟨b,o,none⟩ (.string (T (aw l))))):=⟨h1,(aa.refl _ _).bP o _⟩
 have c1:=h1.cell;have f1:=h1.frozen;have hsl:=iY l;have HM:ae (aH c l=((aw l).head?==some c)):=rfl;have HL:ae (aL c l=if aH c l then(aw l).tail else aw l):=rfl;have HK:ae (Calls prog 129 #[.pointer (some ⟨b,o,none⟩)] w λe w'=>e=.returned (.tuple #[])/\w'=w.setCell ⟨b,o,none⟩ (.string (T (aw l)))):=Dg b o cs t l w h;generalize aH c l=hm at *;generalize aL c l=ml at *;generalize aw l=m at *;cases m with
 |nil =>have he:=qm;have hm':hm=false:=HM.o;subst hm';have HL2:=ak HL.o;go_enter func74,ntmps74;go_wp2_with fail;refine HK.o.mono ?_;rintro e w1 ⟨rfl,rfl⟩;go_wp2_with fail;go_ret;rw[HL2.o];exact⟨rfl,HP.o⟩
 |cons d m =>
  have he:=kV d m;have hd:=d.toNat_lt;have hc:=c.toNat_lt;have hs:(T (d::m)).size=m.length+1:=bZ _;have hg:(T (d::m))[0]'(by rw[hs];omega)=d:=rfl;simp only[List.length_cons]at hsl;by_cases e:d=c
  ·subst e;have hm':hm=true:=by rw[HM.o];simp
   subst hm';have HL2:=ak HL.o;have e2:(T (d::m)).extract 1 (m.length+1)=T m:=by have:=Df (d::m) 1;rw[hs]at this;exact this
   have hq:((d.toNat:Int) !=(d.toNat:Int))=false:=by simp
   have eT:ae (aN w b o cs t m ((w.setCell ⟨b,o,none⟩ (.string (T (d::m)))).setCell ⟨b,o,none⟩ (.string (T m)))):=by have:=h1.set m;rw[set_set]at this;exact⟨this,HP.o.2.bP o _⟩
   go_enter func74,ntmps74;go_wp2_with fail;refine HK.o.mono ?_;rintro e w1 ⟨rfl,rfl⟩;go_wp2_with fail;go_ret;rw[HL2.o];exact⟨rfl,eT.o⟩
  ·have hm':hm=false:=by rw[HM.o];simpa using e
   subst hm';have HL2:=ak HL.o;have hq:((d.toNat:Int) !=(c.toNat:Int))=true:=by rw[bne_iff_ne];exact λh=>e (UInt8.toNat_inj.1 (by omega))
   go_enter func74,ntmps74;go_wp2_with fail;refine HK.o.mono ?_;rintro e w1 ⟨rfl,rfl⟩;go_wp2_with fail;go_ret;rw[HL2.o];exact⟨rfl,HP.o⟩
theorem mY(p:UInt8->Bool):∀(l:tLB) (k:Nat),(∀(h:k<l.length),p l[k]=false)->k<=l.length->(∀j (hj:j<k) (h:j<l.length),p l[j]=true)->l.takeWhile p=l.take k/\l.dropWhile p=l.drop k
 |[],k,_,hk,_=>by
  have:k=0:=by simpa using hk
  subst this;simp
 |c::l,0,h0,_,_=>by have:=h0 (by simp);simp only[List.getElem_cons_zero]at this;simp[cj,cr,this]
 |c::l,k+1,h0,hk,hj=>by have hc:p c=true:=hj 0 (by omega) (by simp);have ih:=mY p l k (λh=>by have:=h0 (by simp;omega);simpa using this) (by simpa using hk) (λj hjk h=>by have:=hj (j+1) (by omega) (by simp;omega);simpa using this);simp[cj,cr,hc,ih.1,ih.2]
theorem iL(b o:Nat)(cs:tAV)(t:TypeId)(l:tLB)(w:tW)(h:mX w b o cs t l)(hl:l.length<=1000000):Calls prog 73 #[.pointer (some ⟨b,o,none⟩)] w λe w'=>e=.returned (.string (T (aC l).1))/\aN w b o cs t (aC l).2 w':=by
 have h1:=h.set (aw l);have HP:ae (aN w b o cs t (aw l) (w.setCell ⟨b,o,none⟩ (.string (T (aw l))))):=⟨h1,(aa.refl _ _).bP o _⟩
 have hsl:=iY l;have HW:ae (aC l=((aw l).takeWhile aG,(aw l).dropWhile aG)):=rfl;have HK:ae (Calls prog 129 #[.pointer (some ⟨b,o,none⟩)] w λe w'=>e=.returned (.tuple #[])/\w'=w.setCell ⟨b,o,none⟩ (.string (T (aw l)))):=Dg b o cs t l w h;generalize aC l=wl at *;generalize aw l=m at *;generalize hw1:w.setCell ⟨b,o,none⟩ (.string (T m))=wk at *;have hs:(T m).size=m.length:=bZ _;clear h hw1;go_enter func73,ntmps73;go_wp2_with fail;refine HK.o.mono ?_;rintro e w1 ⟨rfl,rfl⟩;go_wp2_with fail;go_loopw [3] (λv wx=>∃k:Nat,k<=m.length/\v=.int .i64 k/\aN w b o cs t m wx/\∀j (hj:j<k) (h:j<m.length),aG m[j]=true) (λv _=>m.length-(intOf v).toNat)
 case atStart=>exact⟨0,b9 _,rfl,HP.o,λj hj=>absurd hj (Nat.not_lt_zero _)⟩
 case round =>
  obtain⟨k,hk,rfl,hP,hA⟩:=hrel;have HPk:=ak hP;have HA:=ak hA;have c1:=HPk.o.1.cell;have f1:=HPk.o.1.frozen;clear hP hA HK;by_cases hlt:k<m.length
  ·have hg:(T m)[k]'(by rw[hs];exact hlt)=m[k]:=rfl;have hb:=(m[k]).toNat_lt;cases hc:aG m[k]with
   |true =>
    have hc':jd ((m[k]).toNat:Int)=true:=hc;go_wp2_with (go_at_call 130;refine(nL _ _).mono ?_;rintro e w' ⟨rfl,rfl⟩);go_roundw
    case rel=>exact⟨k+1,by omega,by go_num,HPk.o,λj hj h=>by
     rcases cw j k with e|e
     ·exact HA.o j e h
     ·have:j=k:=by omega
      subst this;exact hc⟩
    case measure=>simp[intOf];omega
   |false =>
    have hc':jd ((m[k]).toNat:Int)=false:=hc;obtain⟨e1,e2⟩:=mY aG m k (λ_=>hc) hk HA.o;have HW2:ae (wl=(m.take k,m.drop k)):=by rw[ae,HW.o,e1,e2]
    have x1:(T m).extract 0 k=T (m.take k):=MC m k;have x2:(T m).extract k m.length=T (m.drop k):=by have:=Df m k;rw[hs]at this;exact this
    have eT:ae (aN w b o cs t (m.drop k) (wr.setCell ⟨b,o,none⟩ (.string (T (m.drop k))))):=by have:=HPk.o.1.set (m.drop k);rw[set_set]at this;exact⟨this,HPk.o.2.bP o _⟩
    clear e1 e2 HW;go_wp2_with (go_at_call 130;refine(nL _ _).mono ?_;rintro e w' ⟨rfl,rfl⟩);go_ret;rw[HW2.o];exact⟨rfl,eT.o⟩
  ·have hke:k=m.length:=by omega
   subst hke;obtain⟨e1,e2⟩:=mY aG m m.length (λh=>absurd h (Nat.lt_irrefl _)) hk HA.o;have HW2:ae (wl=(m,[])):=by rw[ae,HW.o,e1,e2,cD,bh]
   have x1:(T m).extract 0 m.length=T m:=by rw[MC,cD]
   have x2:(T m).extract m.length m.length=T []:=by have:=Df m m.length;rw[hs,bh]at this;exact this
   have eT:ae (aN w b o cs t [] (wr.setCell ⟨b,o,none⟩ (.string (T [])))):=by have:=HPk.o.1.set [];rw[set_set]at this;exact⟨this,HPk.o.2.bP o _⟩
   clear e1 e2 HW;go_wp2_with fail;go_ret;rw[HW2.o];exact⟨rfl,eT.o⟩
theorem aN.quiet{w w1 w2:tW}{b o:Nat}{cs:tAV}{t:TypeId}{l:tLB}(h:aN w b o cs t l w1)(m:aa af w1 w2):aN w b o cs t l w2:=⟨h.1.ah m,h.2.trans m.of_nil⟩
theorem aN.after{w w1 w2:tW}{b o:Nat}{cs:tAV}{t:TypeId}{l l':tLB}(h:aN w b o cs t l w1)(k:aN w1 b o (cs.setIfInBounds o (.string (T l))) t l' w2):aN w b o cs t l' w2:=by have h1:=k.1;rw[set_set]at h1;exact⟨h1,h.2.trans k.2⟩
theorem kX(l:tLB):(aC l).1.length<=l.length/\(aC l).2.length<=l.length:=by have h:=iY l;have h1:((aw l).takeWhile aG).length<=(aw l).length:=(List.takeWhile_sublist _).length_le;have h2:((aw l).dropWhile aG).length<=(aw l).length:=(ca _).length_le;exact⟨Nat.le_trans h1 h,Nat.le_trans h2 h⟩
theorem rR(c:UInt8)(l:tLB):(aL c l).length<=l.length:=by
 have h:=iY l;unfold aL;split
 ·have:(aw l).tail.length<=(aw l).length:=by simp
  omega
 ·exact h
theorem qo{a b:tLB}(h:T a=T b):a=b:=by
 have:=congrArg (λx:tBA=>x.data.toList) h
 simpa [T]using this
theorem YN{w:tLB}{k:Nat}(hk:k<11)(h:w=yU k)(hj:∀j,j<k->w≠yU j):bC w=some k:=by
 unfold bC;rw[List.find?_range_eq_some];refine⟨by simp[h],by simpa using hk,λj hjk=>?_⟩;have:=hj j hjk
 simpa using this
theorem UT{w:tLB}(hj:∀j,j<11->w≠yU j):bC w=none:=by
 unfold bC;rw[List.find?_range_eq_none];intro j h;have:=hj j h
 simpa using this
theorem Gj(x:tLB)(w:tW)(hE:Env w)(hx:x.length<=1000000):Calls prog 227 #[.string (T x)] w λe w'=>e=.returned (.tuple #[.int .u8 (((bC x).getD 0:Nat):Int),.bool (bC x).isSome])/\aa af w w':=by
 have HH:ae (∀k,k<11->x=yU k->(∀j,j<k->x≠yU j)->bC x=some k):=λk=>YN;have HZ:ae ((∀j,j<11->x≠yU j)->bC x=none):=UT;generalize bC x=rx at *;go_enter func227,ntmps227;go_wp2_with fail;go_loopw [5] (λv wx=>∃k:Nat,k<=11/\v=.int .i64 k/\aa af w wx/\∀j,j<k->x≠yU j) (λv _=>11-(intOf v).toNat)
 case atStart=>exact⟨0,b9 _,rfl,aa.refl _ _,λj hj=>absurd hj (Nat.not_lt_zero _)⟩
 case round =>
  obtain⟨k,hk,rfl,hm,hj⟩:=hrel;have HM:=ak hm;have HJ:=ak hj;clear hm hj;by_cases hlt:k<11
  ·have hil:=UM (k:Int) (by omega) (by omega);rw[<-bZ]at hil;have HE:ae (T (yU k)=(⟨#[114]⟩:tBA)++T (ch (k:Int))):=by rw[ae,yU];exact jR [114] _
   go_wp2_with fail;refine(UL (k:Int) (by omega) (by omega) _ (hE.ah HM.o)).mono ?_;rintro e w1 ⟨rfl,m1⟩;have iG:=ak (HM.o.trans m1);clear m1;by_cases hxk:x=yU k
   ·have HR:=ak (HH.o k hlt hxk HJ.o);have hq:((T x).toList==((⟨#[114]⟩:tBA)++T (ch (k:Int))).toList)=true:=uM (by rw[hxk,HE.o]);generalize T (ch (k:Int))=sd at *;clear HE hxk;go_wp2_with fail;go_ret2;rw[HR.o];exact⟨rfl,iG.o⟩
   ·have hq:((T x).toList==((⟨#[114]⟩:tBA)++T (ch (k:Int))).toList)=false:=mV (λe=>hxk (by rw[<-HE.o]at e;exact qo e));generalize T (ch (k:Int))=sd at *;have HX:=ak hxk;clear HE hxk;go_wp2_with fail;go_roundw
    case rel=>exact⟨k+1,by omega,by go_num,iG.o,λj h=>by
     rcases cw j k with e|e
     ·exact HJ.o j e
     ·have:j=k:=by omega
      subst this;exact HX.o⟩
    case measure=>simp[intOf];omega
  ·have HR:ae (rx=none):=HZ.o (λj h=>HJ.o j (by omega));go_wp2_with fail;go_ret2;rw[HR.o];exact⟨rfl,HM.o⟩
theorem Q7(x:tLB)(w:tW)(hE:Env w)(hx:x.length<=1000000):Calls prog 132 #[.string (T x)] w λe w'=>e=.returned (.bool (bC x).isSome)/\aa af w w':=by have HR:=Gj x w hE hx;generalize bC x=rx at *;go_enter func132,ntmps132;go_wp2_with fail;refine HR.mono ?_;rintro e w1 ⟨rfl,m1⟩;go_wp2_with fail;go_ret;exact⟨rfl,m1⟩
theorem Kj(b o:Nat)(cs:tAV)(t:TypeId)(l:tLB)(w:tW)(h:mX w b o cs t l)(hl:l.length<=1000000)(hE:∀w',aa (Only b) w w'->Env w'):Calls prog 139 #[.pointer (some ⟨b,o,none⟩)] w λe w'=>e=.returned (.tuple #[.int .u8 (((bC (aC l).1).getD 0:Nat):Int),.bool (bC (aC l).1).isSome])/\aN w b o cs t (aC l).2 w':=by have HW:=iL b o cs t l w h hl;have hle:=kX l;have HR:ae (∀w',Env w'->Calls prog 227 #[.string (T (aC l).1)] w' λe w''=>e=.returned (.tuple #[.int .u8 (((bC (aC l).1).getD 0:Nat):Int),.bool (bC (aC l).1).isSome])/\aa af w' w''):=λw' hE'=>Gj _ w' hE' (by omega);generalize bC (aC l).1=rx at *;generalize aC l=wl at *;obtain⟨w1,w2⟩:=wl;simp only at *;go_enter func139,ntmps139;go_wp2_with fail;refine HW.mono ?_;rintro e wa ⟨rfl,hp⟩;go_wp2_with fail;refine(HR.o _ (hE _ hp.2)).mono ?_;rintro e wb ⟨rfl,m1⟩;go_wp2_with fail;go_ret2;exact⟨rfl,hp.quiet m1⟩
theorem qF(b o:Nat)(cs:tAV)(t:TypeId)(l:tLB)(w:tW)(h:mX w b o cs t l)(hl:l.length<=1000000):Calls prog 78 #[.pointer (some ⟨b,o,none⟩)] w λe w'=>e=.returned (.tuple #[.string (T (aC l).1),.bool (ahI (aC l).1)])/\aN w b o cs t (aC l).2 w':=by
 have HW:=iL b o cs t l w h hl;have hle:=kX l;have HR:ae (∀w',Calls prog 75 #[.string (T (aC l).1)] w' λe w''=>e=.returned (.bool (ahI (aC l).1))/\w''=w'):=λw'=>by have:=BB (T (aC l).1) w' (by rw[bZ];unfold maxLen;omega);rw[show(T (aC l).1).data.toList=(aC l).1 by simp[T]]at this;exact this
 generalize ahI (aC l).1=rx at *;generalize aC l=wl at *;obtain⟨w1,w2⟩:=wl;simp only at *;go_enter func78,ntmps78;go_wp2_with fail;refine HW.mono ?_;rintro e wa ⟨rfl,hp⟩;go_wp2_with fail;refine(HR.o _).mono ?_;rintro e wb ⟨rfl,rfl⟩;go_wp2_with fail;go_ret2;exact⟨rfl,hp⟩
theorem Q8(c:UInt8)(w:tW):Calls prog 310 #[.int .u8 (c.toNat:Int)] w λe w'=>e=.returned (.int .u64 (ku c:Nat))/\w'=w:=by
 have hc:=c.toNat_lt;have HD:ae (ku c=if 48<=c.toNat/\c.toNat<=57 then c.toNat-48 else if 97<=c.toNat/\c.toNat<=102 then c.toNat-87 else 255):=rfl;generalize ku c=dc at *;generalize c.toNat=n at *;by_cases h1:48<=n/\n<=57
 ·obtain⟨ha,hb⟩:=h1;have HV:ae ((dc:Int)=(n:Int)-48):=by rw[ae,HD.o,iP9 ⟨ha,hb⟩];omega
  have hq:aS (n:Int)=true:=by unfold aS;simp;omega
  have ha':(48:Int)<=n:=by omega
  have hb':(n:Int)<=57:=by omega
  go_enter func310,ntmps310;go_wp2_with (go_at_call 226;refine(oQ _ _).mono ?_;rintro e w' ⟨rfl,rfl⟩);go_ret;exact⟨by rw[HV.o];rfl,rfl⟩
 ·have hq:aS (n:Int)=false:=by unfold aS;rw[Bool.and_eq_false_iff];simp;omega
  by_cases h2:97<=n
  ·have h2':(97:Int)<=n:=by omega
   by_cases h3:n<=102
   ·have h3':(n:Int)<=102:=by omega
    have HV:ae ((dc:Int)=(n:Int)-97+10):=by rw[ae,HD.o,iN9 h1,iP9 ⟨h2,h3⟩];omega
    go_enter func310,ntmps310;go_wp2_with (go_at_call 226;refine(oQ _ _).mono ?_;rintro e w' ⟨rfl,rfl⟩);go_ret;exact⟨by rw[HV.o];rfl,rfl⟩
   ·have h3':decide ((n:Int)<=102)=false:=by simp;omega
    have HV:ae (dc=255):=by rw[ae,HD.o,iN9 h1,iN9 (by omega)]
    go_enter func310,ntmps310;go_wp2_with (go_at_call 226;refine(oQ _ _).mono ?_;rintro e w' ⟨rfl,rfl⟩);go_ret;exact⟨by rw[HV.o];rfl,rfl⟩
  ·have h2':decide ((97:Int)<=n)=false:=by simp;omega
   have HV:ae (dc=255):=by rw[ae,HD.o,iN9 h1,iN9 (by omega)]
   go_enter func310,ntmps310;go_wp2_with (go_at_call 226;refine(oQ _ _).mono ?_;rintro e w' ⟨rfl,rfl⟩);go_ret;exact⟨by rw[HV.o];rfl,rfl⟩
def aA.dP(n:aA):Value:=.agg #[.bool n.minus,.int .u64 ((n.v%18446744073709551616:Nat):Int),.bool (decide (18446744073709551616<=n.v))]
theorem yV(n:aA)(w:tW):Calls prog 215 #[n.dP,.int .i64 16] w λe w'=>e=.returned (.tuple #[.int .i64 ((n.aO 32768).getD 0),.bool (n.aO 32768).isSome])/\aa af w w':=by
 obtain⟨v,mi⟩:=n;have HS:ae ((aA.mk v mi).aO 32768=if 18446744073709551616<=v then none else if mi then(if v<=32768 then some (-(v:Int))else none)else(if v<32768 then some (v:Int)else none)):=rfl;generalize(aA.mk v mi).aO 32768=sg at *;unfold aA.dP;dsimp only;by_cases hb:18446744073709551616<=v
 ·have HS2:ae (sg=none):=by rw[ae,HS.o,iP9 hb]
  have hq:decide (18446744073709551616<=v)=true:=by simpa using hb
  rw[hq];generalize((v%18446744073709551616:Nat):Int)=u;go_enter func215,ntmps215;go_wp2_with fail;go_ret2;rw[HS2.o];exact⟨rfl,(aa.refl _ _).alloc _⟩
 ·have hq:decide (18446744073709551616<=v)=false:=by simpa using hb
  have hm:v%18446744073709551616=v:=an (by omega);rw[hq,hm];have BC:ae (sg=if mi then(if v<=32768 then some (-(v:Int))else none)else(if v<32768 then some (v:Int)else none)):=by rw[ae,HS.o,iN9 hb]
  clear HS hq hm;cases mi with
  |true =>
   by_cases h1:v<=32768
   ·have HS2:ae (sg=some (-(v:Int))):=by rw[ae,BC.o,iP9 rfl,iP9 h1]
    have h1':(v:Int)<=32768:=by omega
    go_enter func215,ntmps215;go_wp2_with fail;go_ret2;rw[HS2.o];exact⟨rfl,(aa.refl _ _).alloc _⟩
   ·have HS2:ae (sg=none):=by rw[ae,BC.o,iP9 rfl,iN9 h1]
    have h1':decide ((v:Int)<=32768)=false:=by simp;omega
    go_enter func215,ntmps215;go_wp2_with fail;go_ret2;rw[HS2.o];exact⟨rfl,(aa.refl _ _).alloc _⟩
  |false =>
   by_cases h1:v<32768
   ·have HS2:ae (sg=some (v:Int)):=by rw[ae,BC.o,iN9 (by decide),iP9 h1]
    have h1':(v:Int)<32768:=by omega
    go_enter func215,ntmps215;go_wp2_with fail;go_ret2;rw[HS2.o];exact⟨rfl,(aa.refl _ _).alloc _⟩
   ·have HS2:ae (sg=none):=by rw[ae,BC.o,iN9 (by decide),iN9 h1]
    have h1':decide ((v:Int)<32768)=false:=by simp;omega
    go_enter func215,ntmps215;go_wp2_with fail;go_ret2;rw[HS2.o];exact⟨rfl,(aa.refl _ _).alloc _⟩
theorem Ii(n:aA)(w:tW):Calls prog 215 #[n.dP,.int .i64 32] w λe w'=>e=.returned (.tuple #[.int .i64 ((n.aO 2147483648).getD 0),.bool (n.aO 2147483648).isSome])/\aa af w w':=by
 obtain⟨v,mi⟩:=n;have HS:ae ((aA.mk v mi).aO 2147483648=if 18446744073709551616<=v then none else if mi then(if v<=2147483648 then some (-(v:Int))else none)else(if v<2147483648 then some (v:Int)else none)):=rfl;generalize(aA.mk v mi).aO 2147483648=sg at *;unfold aA.dP;dsimp only;by_cases hb:18446744073709551616<=v
 ·have HS2:ae (sg=none):=by rw[ae,HS.o,iP9 hb]
  have hq:decide (18446744073709551616<=v)=true:=by simpa using hb
  rw[hq];generalize((v%18446744073709551616:Nat):Int)=u;go_enter func215,ntmps215;go_wp2_with fail;go_ret2;rw[HS2.o];exact⟨rfl,(aa.refl _ _).alloc _⟩
 ·have hq:decide (18446744073709551616<=v)=false:=by simpa using hb
  have hm:v%18446744073709551616=v:=an (by omega);rw[hq,hm];have BC:ae (sg=if mi then(if v<=2147483648 then some (-(v:Int))else none)else(if v<2147483648 then some (v:Int)else none)):=by rw[ae,HS.o,iN9 hb]
  clear HS hq hm;cases mi with
  |true =>
   by_cases h1:v<=2147483648
   ·have HS2:ae (sg=some (-(v:Int))):=by rw[ae,BC.o,iP9 rfl,iP9 h1]
    have h1':(v:Int)<=2147483648:=by omega
    go_enter func215,ntmps215;go_wp2_with fail;go_ret2;rw[HS2.o];exact⟨rfl,(aa.refl _ _).alloc _⟩
   ·have HS2:ae (sg=none):=by rw[ae,BC.o,iP9 rfl,iN9 h1]
    have h1':decide ((v:Int)<=2147483648)=false:=by simp;omega
    go_enter func215,ntmps215;go_wp2_with fail;go_ret2;rw[HS2.o];exact⟨rfl,(aa.refl _ _).alloc _⟩
  |false =>
   by_cases h1:v<2147483648
   ·have HS2:ae (sg=some (v:Int)):=by rw[ae,BC.o,iN9 (by decide),iP9 h1]
    have h1':(v:Int)<2147483648:=by omega
    go_enter func215,ntmps215;go_wp2_with fail;go_ret2;rw[HS2.o];exact⟨rfl,(aa.refl _ _).alloc _⟩
   ·have HS2:ae (sg=none):=by rw[ae,BC.o,iN9 (by decide),iN9 h1]
    have h1':decide ((v:Int)<2147483648)=false:=by simp;omega
    go_enter func215,ntmps215;go_wp2_with fail;go_ret2;rw[HS2.o];exact⟨rfl,(aa.refl _ _).alloc _⟩
theorem nN(n:aA)(w:tW):Calls prog 215 #[n.dP,.int .i64 64] w λe w'=>e=.returned (.tuple #[.int .i64 ((n.aO 9223372036854775808).getD 0),.bool (n.aO 9223372036854775808).isSome])/\aa af w w':=by
 obtain⟨v,mi⟩:=n;have HS:ae ((aA.mk v mi).aO 9223372036854775808=if 18446744073709551616<=v then none else if mi then(if v<=9223372036854775808 then some (-(v:Int))else none)else(if v<9223372036854775808 then some (v:Int)else none)):=rfl;generalize(aA.mk v mi).aO 9223372036854775808=sg at *;unfold aA.dP;dsimp only;by_cases hb:18446744073709551616<=v
 ·have HS2:ae (sg=none):=by rw[ae,HS.o,iP9 hb]
  have hq:decide (18446744073709551616<=v)=true:=by simpa using hb
  rw[hq];generalize((v%18446744073709551616:Nat):Int)=u;go_enter func215,ntmps215;go_wp2_with fail;go_ret2;rw[HS2.o];exact⟨rfl,(aa.refl _ _).alloc _⟩
 ·have hq:decide (18446744073709551616<=v)=false:=by simpa using hb
  have hm:v%18446744073709551616=v:=an (by omega);rw[hq,hm];have BC:ae (sg=if mi then(if v<=9223372036854775808 then some (-(v:Int))else none)else(if v<9223372036854775808 then some (v:Int)else none)):=by rw[ae,HS.o,iN9 hb]
  clear HS hq hm;cases mi with
  |true =>
   by_cases h1:v<=9223372036854775808
   ·have HS2:ae (sg=some (-(v:Int))):=by rw[ae,BC.o,iP9 rfl,iP9 h1]
    have h1':(v:Int)<=9223372036854775808:=by omega
    have hw:Go.RowKit.wrap64 (-Go.RowKit.wrap64 (v:Int))=-(v:Int):=by unfold Go.RowKit.wrap64;omega
    go_enter func215,ntmps215;go_wp2_with fail;go_ret2;rw[HS2.o];exact⟨rfl,(aa.refl _ _).alloc _⟩
   ·have HS2:ae (sg=none):=by rw[ae,BC.o,iP9 rfl,iN9 h1]
    have h1':decide ((v:Int)<=9223372036854775808)=false:=by simp;omega
    go_enter func215,ntmps215;go_wp2_with fail;go_ret2;rw[HS2.o];exact⟨rfl,(aa.refl _ _).alloc _⟩
  |false =>
   by_cases h1:v<9223372036854775808
   ·have HS2:ae (sg=some (v:Int)):=by rw[ae,BC.o,iN9 (by decide),iP9 h1]
    have h1':(v:Int)<9223372036854775808:=by omega
    go_enter func215,ntmps215;go_wp2_with fail;go_ret2;rw[HS2.o];exact⟨rfl,(aa.refl _ _).alloc _⟩
   ·have HS2:ae (sg=none):=by rw[ae,BC.o,iN9 (by decide),iN9 h1]
    have h1':decide ((v:Int)<9223372036854775808)=false:=by simp;omega
    go_enter func215,ntmps215;go_wp2_with fail;go_ret2;rw[HS2.o];exact⟨rfl,(aa.refl _ _).alloc _⟩
theorem UU(n:aA)(w:tW):Calls prog 289 #[n.dP] w λe w'=>e=.returned (.tuple #[.int .u64 ((n.bT.getD 0:Nat):Int),.bool n.bT.isSome])/\aa af w w':=by
 obtain⟨v,mi⟩:=n;have HS:ae ((aA.mk v mi).bT=if 18446744073709551616<=v then none else if mi then(if v<=9223372036854775808 then some ((18446744073709551616-v)%18446744073709551616)else none)else some v):=rfl;generalize(aA.mk v mi).bT=sg at *;unfold aA.dP;dsimp only;by_cases hb:18446744073709551616<=v
 ·have HS2:ae (sg=none):=by rw[ae,HS.o,iP9 hb]
  have hq:decide (18446744073709551616<=v)=true:=by simpa using hb
  rw[hq];generalize((v%18446744073709551616:Nat):Int)=u;go_enter func289,ntmps289;go_wp2_with fail;go_ret2;rw[HS2.o];exact⟨rfl,(aa.refl _ _).alloc _⟩
 ·have hq:decide (18446744073709551616<=v)=false:=by simpa using hb
  have hm:v%18446744073709551616=v:=an (by omega);rw[hq,hm];have BC:ae (sg=if mi then(if v<=9223372036854775808 then some ((18446744073709551616-v)%18446744073709551616)else none)else some v):=by rw[ae,HS.o,iN9 hb]
  clear HS hq hm;cases mi with
  |true =>
   by_cases h1:v<=9223372036854775808
   ·have HS2:ae (sg=some ((18446744073709551616-v)%18446744073709551616)):=by rw[ae,BC.o,iP9 rfl,iP9 h1]
    have h1':(v:Int)<=9223372036854775808:=by omega
    have HW:ae (IntKind.u64.wrap (-(v:Int))=(((18446744073709551616-v)%18446744073709551616:Nat):Int)):=by rw[ae,wrap64];omega
    go_enter func289,ntmps289;go_wp2_with fail;go_ret2;rw[HS2.o];refine⟨?_,(aa.refl _ _).alloc _⟩;show _=Ending.returned (.tuple #[.int .u64 (((18446744073709551616-v)%18446744073709551616:Nat):Int),.bool true])
    rw[<-HW.o];rfl
   ·have HS2:ae (sg=none):=by rw[ae,BC.o,iP9 rfl,iN9 h1]
    have h1':decide ((v:Int)<=9223372036854775808)=false:=by simp;omega
    go_enter func289,ntmps289;go_wp2_with fail;go_ret2;rw[HS2.o];exact⟨rfl,(aa.refl _ _).alloc _⟩
  |false =>
   have HS2:ae (sg=some v):=by rw[ae,BC.o,iN9 (by decide)]
   go_enter func289,ntmps289;go_wp2_with fail;go_ret2;rw[HS2.o];exact⟨rfl,(aa.refl _ _).alloc _⟩
theorem BD(n:aA)(w:tW):Calls prog 246 #[n.dP] w λe w'=>e=.returned (aA.mk n.v (!n.minus)).dP/\aa af w w':=by
 obtain⟨v,mi⟩:=n;unfold aA.dP;dsimp only;generalize((v%18446744073709551616:Nat):Int)=u;generalize decide (18446744073709551616<=v)=bg
 have hb1:aq ((w.alloc (.cells #[.bool (!mi),.int .u64 u,.bool bg] 112)).alloc (.cells #[.bool (!mi),.int .u64 u,.bool bg] 112)) (w.heap.size+1) #[.bool (!mi),.int .u64 u,.bool bg] 112:=by
  have:=aq.new (w.alloc (.cells #[.bool (!mi),.int .u64 u,.bool bg] 112)) #[.bool (!mi),.int .u64 u,.bool bg] 112
  simpa using this
 have HB:=ak hb1;clear hb1;go_enter func246,ntmps246;go_wp2_with fail;exact bodyPost_ret (results_cell_row results246 _ _ (w.heap.size+1) 112 _ (0,0) _ rfl HB.o underlying112 rfl (by kernel_rfl)) rfl ⟨rfl,((aa.refl _ _).alloc _).alloc _⟩
theorem YO(c:UInt8):ku c<=255:=by
 unfold ku;have:=c.toNat_lt;split
 ·omega
 ·split<;>omega
theorem Q9(base:Nat)(m:tLB)(k v:Nat)(hk:k<m.length):ahZ base (m.drop k) v=if base<=ku m[k]then none else ahZ base (m.drop (k+1)) (v*base+ku m[k]):=by rw[List.drop_eq_getElem_cons hk,ahZ]
theorem Ra(x:tLB)(w:tW)(hx:x.length<=1000000):Calls prog 286 #[.string (T x)] w λe w'=>e=.returned (.tuple #[(aA.mk ((aU x).getD 0) false).dP,.bool (aU x).isSome])/\aa af w w':=by
 have iy:ae (aq (w.alloc (.cells #[.bool false,.int .u64 0,.bool false] 112)) w.heap.size #[.bool false,.int .u64 0,.bool false] 112):=aq.new w _ _;have gq:ae (aa af w (w.alloc (.cells #[.bool false,.int .u64 0,.bool false] 112))):=(aa.refl _ _).alloc _;have HZ0:ae ((aA.mk 0 false).dP=.agg #[.bool false,.int .u64 0,.bool false]):=rfl;have EY:ae (aU x=if gY x=[]\/20<x.length then none else ahZ (jS x) (gY x) 0):=rfl;have Q5:ae (jS x=if wR x then 16 else 10):=rfl;have Kk:ae (gY x=if wR x then x.drop 2 else x):=rfl
 have HHX:ae (wR x=true->2<=x.length):=λh=>by
  unfold wR at h
  match x,h with
  |[],h=>simp[bj]at h
  |[a],h=>simp[bj]at h
  |a::b::r,_=>simp
 have Uk:ae (∀w',Calls prog 228 #[.string (T x),.string (T [48,120])] w' λe w''=>e=.returned (.bool (wR x))/\w''=w'):=λw'=>Ki x [48,120] w';have hs:(T x).size=x.length:=bZ x;generalize aU x=nx at *;generalize jS x=base at *;generalize gY x=m at *;generalize wR x=hb at *;go_enter func286,ntmps286;go_wp2_with fail;refine(Uk.o _).mono ?_;rintro e w1 ⟨rfl,rfl⟩;clear Uk;generalize w.alloc (.cells #[.bool false,.int .u64 0,.bool false] 112)=w1 at *;have HRl:ae (w.heap.size<=w.heap.size):=Nat.le_refl _;generalize hRr:w.heap.size=R at *;go_upto_if 11 with fail;go_cut [4,5] (λbv dv wx=>bv=.int .u64 (base:Nat)/\dv=.string (T m)/\aa af w1 wx)
 case first =>
  cases hb with
  |true =>
   have h2:=HHX.o rfl;have e2:(T x).extract 2 x.length=T (x.drop 2):=by have:=Df x 2;rw[hs]at this;exact this
   have HB2:ae (base=16):=Q5.o;have HD2:ae (m=x.drop 2):=Kk.o;have h2':(2:Int)<=x.length:=by omega
   go_upto_region 3 with fail;go_quiet (fail);have hmq:aa af w1 (w1.drewN nq):=(aa.refl _ _).drewN nq;go_wp2_with fail;go_meet;exact⟨by rw[HB2.o];rfl,by rw[HD2.o],hmq⟩
  |false =>have HB2:ae (base=10):=Q5.o;have HD2:ae (m=x):=Kk.o;go_wp2_with fail;go_meet;exact⟨by rw[HB2.o];rfl,by rw[HD2.o],aa.refl _ _⟩
 case rest =>
 obtain⟨rfl,rfl,hmc⟩:=hcut;have Ap:=ak (iy.o.ah hmc id);have iG:=ak (gq.o.trans hmc)
 have hbs:base=10\/base=16:=by
  rw[Q5.o];cases hb
  ·exact .inl rfl
  ·exact .inr rfl
 have Kl:m.length<=x.length:=by
  rw[Kk.o];split
  ·simp
  ·exact Nat.le_refl _
 clear iy gq hmc Q5 Kk HHX;have r0:wc.cell? ⟨R,0,none⟩=some (.bool false):=Ap.o.cell 0;have r1:wc.cell? ⟨R,1,none⟩=some (.int .u64 0):=Ap.o.cell 1;have r2:wc.cell? ⟨R,2,none⟩=some (.bool false):=Ap.o.cell 2;have rf:=Ap.o.frozen;have hms:(T m).size=m.length:=bZ m;by_cases h0:m=[]\/20<x.length
 ·have um:ae (nx=none):=by rw[ae,EY.o,iP9 h0]
  have Gi:ae (aq (((wc.setCell ⟨R,0,none⟩ (.bool false)).setCell ⟨R,1,none⟩ (.int .u64 0)).setCell ⟨R,2,none⟩ (.bool false)) R #[.bool false,.int .u64 0,.bool false] 112):=((Ap.o.set 0 _).set 1 _).set 2 _;have US:ae (aa af w (((wc.setCell ⟨R,0,none⟩ (.bool false)).setCell ⟨R,1,none⟩ (.int .u64 0)).setCell ⟨R,2,none⟩ (.bool false))):=by refine((iG.o.set (a:=⟨R,0,none⟩) (.inr ?_) _).set (a:=⟨R,1,none⟩) (.inr ?_) _).set (a:=⟨R,2,none⟩) (.inr ?_) _<;>exact cx hRr
  cases m with
  |nil =>have he:=qm;go_wp2_with fail;refine bodyPost_ret (au results286 _ _ R 112 _ (0,0) _ _ rfl rfl Gi.o underlying112 rfl (by kernel_rfl)) rfl ⟨?_,US.o⟩;rw[um.o];rfl
  |cons c m =>
   have he:=kV c m;have h20:20<x.length:=by rcases h0 with h|h;cases h;exact h
   have aec:(20:Int)<x.length:=by omega
   clear h0;go_wp2_with fail;refine bodyPost_ret (au results286 _ _ R 112 _ (0,0) _ _ rfl rfl Gi.o underlying112 rfl (by kernel_rfl)) rfl ⟨?_,US.o⟩;rw[um.o];rfl
 ·have um:ae (nx=ahZ base m 0):=by rw[ae,EY.o,iN9 h0]
  have he:(T m).toList.isEmpty=false:=by
   cases m with
   |nil=>exact absurd (.inl rfl) h0
   |cons c m=>exact kV c m
  have h20:x.length<=20:=by
   rcases cw 20 x.length with h|h
   ·exact absurd (.inr h) h0
   ·exact h
  have aec:decide ((20:Int)<x.length)=false:=by simp;omega
  clear EY h0;have HB1:ae (aq (wc.alloc (.cells #[.bool false,.int .u64 0,.bool false] 112)) wc.heap.size (aA.xO ⟨0,false⟩).toArray 112):=aq.new wc _ _;have jI:ae (aq (wc.alloc (.cells #[.bool false,.int .u64 0,.bool false] 112)) R #[.bool false,.int .u64 0,.bool false] 112):=Ap.o.alloc _;have ep:ae (aa af w (wc.alloc (.cells #[.bool false,.int .u64 0,.bool false] 112))):=iG.o.alloc _;have hRB:R<wc.heap.size:=Ap.o.lt;have rH:=ak iG.o.size;go_upto_region 7 with fail;clear r0 r1 r2 rf Ap iG;generalize wc.alloc (.cells #[.bool false,.int .u64 0,.bool false] 112)=w2 at *;generalize hBb:wc.heap.size=B at *;have gU:ae (B≠R):=by rw[ae];omega
  go_wp2_with fail;go_loopg [24] m.length (λq kv wx=>∃k v:Nat,kv=.int .i64 k/\aq wx B (aA.xO ⟨v,false⟩).toArray 112/\aq wx R #[.bool false,.int .u64 0,.bool false] 112/\aa af w wx/\nx=ahZ base (m.drop k) v/\k<=m.length/\q=m.length-k)
  case atStart=>exact⟨0,0,rfl,HB1.o,jI.o,ep.o,um.o,b9 _,rfl⟩
  case round =>
   obtain⟨k,v,rfl,hb',hr,hm,hal,hks,rfl⟩:=hrel;have qk:=ak hb';have wU:=ak hr;have uk:=ak hm;have HAk:=ak hal;clear hb' hr hm hal HB1 jI ep um;by_cases hkl:k<m.length
   ·have HA2:ae (nx=if base<=ku m[k]then none else ahZ base (m.drop (k+1)) (v*base+ku m[k])):=by rw[ae,HAk.o,Q9 base m k v hkl]
    have hg:(T m)[k]'(by rw[hms];exact hkl)=m[k]:=rfl;have HV:ae (∀w',Calls prog 310 #[.int .u8 ((m[k]).toNat:Int)] w' λe w''=>e=.returned (.int .u64 (ku m[k]:Nat))/\w''=w'):=λw'=>Q8 m[k] w';have hdl:=YO m[k];clear HAk;generalize ku m[k]=d at *;go_wp2_with fail;refine(HV.o _).mono ?_;rintro e w3 ⟨rfl,rfl⟩;clear HV;by_cases hd:base<=d
    ·have Dh:ae (nx=none):=by rw[ae,HA2.o,iP9 hd]
     have hd':(base:Int)<=d:=by omega
     have r0:w3.cell? ⟨R,0,none⟩=some (.bool false):=wU.o.cell 0;have r1:w3.cell? ⟨R,1,none⟩=some (.int .u64 0):=wU.o.cell 1;have r2:w3.cell? ⟨R,2,none⟩=some (.bool false):=wU.o.cell 2;have rf:=wU.o.frozen;have Gi:ae (aq (((w3.setCell ⟨R,0,none⟩ (.bool false)).setCell ⟨R,1,none⟩ (.int .u64 0)).setCell ⟨R,2,none⟩ (.bool false)) R #[.bool false,.int .u64 0,.bool false] 112):=((wU.o.set 0 _).set 1 _).set 2 _;have US:ae (aa af w (((w3.setCell ⟨R,0,none⟩ (.bool false)).setCell ⟨R,1,none⟩ (.int .u64 0)).setCell ⟨R,2,none⟩ (.bool false))):=by refine((uk.o.set (a:=⟨R,0,none⟩) (.inr ?_) _).set (a:=⟨R,1,none⟩) (.inr ?_) _).set (a:=⟨R,2,none⟩) (.inr ?_) _<;>exact cx hRr
     clear HA2;go_wp2_with fail;refine bodyPost_ret (au results286 _ _ R 112 _ (0,0) _ _ rfl rfl Gi.o underlying112 rfl (by kernel_rfl)) rfl ⟨?_,US.o⟩;rw[Dh.o];rfl
    ·have kT:ae (nx=ahZ base (m.drop (k+1)) (v*base+d)):=by rw[ae,HA2.o,iN9 hd]
     have hd':decide ((base:Int)<=d)=false:=by simp;omega
     have abH:d<=15:=by omega
     clear HA2;have Mx:=Kg v base d hbs abH;have c1:w3.cell? ⟨B,1,none⟩=some (.int .u64 ((v%18446744073709551616:Nat):Int)):=qk.o.cell 1;have c2:w3.cell? ⟨B,2,none⟩=some (.bool (decide (18446744073709551616<=v))):=qk.o.cell 2;have hu:v%18446744073709551616<18446744073709551616:=Nat.mod_lt _ (by decide);have JT:ae _:=Mx;clear Mx;generalize hU:v%18446744073709551616=u at *;have YP:ae (aq w3 B #[.bool false,.int .u64 (u:Int),.bool (decide (18446744073709551616<=v))] 112):=by have:=qk.o;unfold aA.xO at this;dsimp only at this;rw[hU]at this;exact this
     clear qk;rcases hbs with rfl|rfl
     ·have HW:ae (IntKind.u64.wrap (IntKind.u64.wrap ((u:Int)*10)+(d:Int))=(((v*10+d)%18446744073709551616:Nat):Int)):=by rw[ae,JT.o.2,wrap64,wrap64];omega
      have De:=ak JT.o.1;clear JT;have HJ:ae (m.length-(k+1)<m.length-k):=by rw[ae];omega
      go_upto_region 13 with fail;generalize hq:decide ((18446744073709551615-(d:Int))/10<(u:Int))=qq at *
      have HQ:ae (decide ((18446744073709551615-d)/10<u)=qq):=by
       rw[ae,<-hq];by_cases e:(18446744073709551615-d)/10<u
       ·rw[decide_eq_true e,decide_eq_true (by omega)]
       ·rw[decide_eq_false e,decide_eq_false (by omega)]
      rw[HQ.o]at De;clear HQ;generalize hbg:decide (18446744073709551616<=v)=bg at *;have Rc:=ak YP.o.drew;have HRd:=ak wU.o.drew;have gV:=ak uk.o.drew;refine dz 11 (by kernel_rfl) (by kernel_rfl) ?_;intro W hW;rw[<-hW]at Rc HRd gV;clear hW;clear c1 c2 YP wU uk;have c1:W.cell? ⟨B,1,none⟩=some (.int .u64 (u:Int)):=Rc.o.cell 1;have c2:W.cell? ⟨B,2,none⟩=some (.bool bg):=Rc.o.cell 2;have cf:=Rc.o.frozen;have hu':(u:Int)<18446744073709551616:=by omega
      have hdd:(d:Int)<=15:=by omega
      have HB3:ae (aq ((W.setCell ⟨B,2,none⟩ (.bool (bg||qq))).setCell ⟨B,1,none⟩ (.int .u64 (IntKind.u64.wrap (IntKind.u64.wrap ((u:Int)*10)+(d:Int))))) B (aA.xO ⟨v*10+d,false⟩).toArray 112):=by have:=(Rc.o.set 2 (.bool (bg||qq))).set 1 (.int .u64 (IntKind.u64.wrap (IntKind.u64.wrap ((u:Int)*10)+(d:Int))));rw[HW.o]at this ⊢;unfold aA.xO;dsimp only;rw[De.o];exact this
      have EP:ae (aq ((W.setCell ⟨B,2,none⟩ (.bool (bg||qq))).setCell ⟨B,1,none⟩ (.int .u64 (IntKind.u64.wrap (IntKind.u64.wrap ((u:Int)*10)+(d:Int))))) R #[.bool false,.int .u64 0,.bool false] 112):=(HRd.o.setOther (a:=⟨B,2,none⟩) gU.o _).setOther (a:=⟨B,1,none⟩) gU.o _;have fw:ae (aa af w ((W.setCell ⟨B,2,none⟩ (.bool (bg||qq))).setCell ⟨B,1,none⟩ (.int .u64 (IntKind.u64.wrap (IntKind.u64.wrap ((u:Int)*10)+(d:Int)))))):=(gV.o.set (a:=⟨B,2,none⟩) (.inr rH.o) _).set (a:=⟨B,1,none⟩) (.inr rH.o) _;clear Rc HRd gV De HW hbg;simp only[ao,cb,ar,cc];cases bg with
      |true =>
       repeat(go_big_quiet_step (fail))
       refine wpQuiet_nil ?_;go_wp2_with fail;go_roundg (m.length-(k+1))
       case measure=>exact HJ.o
       case rel=>exact⟨k+1,v*10+d,by go_num,HB3.o,EP.o,fw.o,kT.o,by omega,rfl⟩
      |false =>
       repeat(go_big_quiet_step (fail))
       refine wpQuiet_nil ?_;go_wp2_with fail;go_roundg (m.length-(k+1))
       case measure=>exact HJ.o
       case rel=>exact⟨k+1,v*10+d,by go_num,HB3.o,EP.o,fw.o,kT.o,by omega,rfl⟩
     ·have HW:ae (IntKind.u64.wrap (IntKind.u64.wrap ((u:Int)*16)+(d:Int))=(((v*16+d)%18446744073709551616:Nat):Int)):=by rw[ae,JT.o.2,wrap64,wrap64];omega
      have De:=ak JT.o.1;clear JT;have HJ:ae (m.length-(k+1)<m.length-k):=by rw[ae];omega
      go_upto_region 13 with fail;generalize hq:decide ((18446744073709551615-(d:Int))/16<(u:Int))=qq at *
      have HQ:ae (decide ((18446744073709551615-d)/16<u)=qq):=by
       rw[ae,<-hq];by_cases e:(18446744073709551615-d)/16<u
       ·rw[decide_eq_true e,decide_eq_true (by omega)]
       ·rw[decide_eq_false e,decide_eq_false (by omega)]
      rw[HQ.o]at De;clear HQ;generalize hbg:decide (18446744073709551616<=v)=bg at *;have Rc:=ak YP.o.drew;have HRd:=ak wU.o.drew;have gV:=ak uk.o.drew;refine dz 11 (by kernel_rfl) (by kernel_rfl) ?_;intro W hW;rw[<-hW]at Rc HRd gV;clear hW;clear c1 c2 YP wU uk;have c1:W.cell? ⟨B,1,none⟩=some (.int .u64 (u:Int)):=Rc.o.cell 1;have c2:W.cell? ⟨B,2,none⟩=some (.bool bg):=Rc.o.cell 2;have cf:=Rc.o.frozen;have hu':(u:Int)<18446744073709551616:=by omega
      have hdd:(d:Int)<=15:=by omega
      have HB3:ae (aq ((W.setCell ⟨B,2,none⟩ (.bool (bg||qq))).setCell ⟨B,1,none⟩ (.int .u64 (IntKind.u64.wrap (IntKind.u64.wrap ((u:Int)*16)+(d:Int))))) B (aA.xO ⟨v*16+d,false⟩).toArray 112):=by have:=(Rc.o.set 2 (.bool (bg||qq))).set 1 (.int .u64 (IntKind.u64.wrap (IntKind.u64.wrap ((u:Int)*16)+(d:Int))));rw[HW.o]at this ⊢;unfold aA.xO;dsimp only;rw[De.o];exact this
      have EP:ae (aq ((W.setCell ⟨B,2,none⟩ (.bool (bg||qq))).setCell ⟨B,1,none⟩ (.int .u64 (IntKind.u64.wrap (IntKind.u64.wrap ((u:Int)*16)+(d:Int))))) R #[.bool false,.int .u64 0,.bool false] 112):=(HRd.o.setOther (a:=⟨B,2,none⟩) gU.o _).setOther (a:=⟨B,1,none⟩) gU.o _;have fw:ae (aa af w ((W.setCell ⟨B,2,none⟩ (.bool (bg||qq))).setCell ⟨B,1,none⟩ (.int .u64 (IntKind.u64.wrap (IntKind.u64.wrap ((u:Int)*16)+(d:Int)))))):=(gV.o.set (a:=⟨B,2,none⟩) (.inr rH.o) _).set (a:=⟨B,1,none⟩) (.inr rH.o) _;clear Rc HRd gV De HW hbg;simp only[ao,cb,ar,cc];cases bg with
      |true =>
       repeat(go_big_quiet_step (fail))
       refine wpQuiet_nil ?_;go_wp2_with fail;go_roundg (m.length-(k+1))
       case measure=>exact HJ.o
       case rel=>exact⟨k+1,v*16+d,by go_num,HB3.o,EP.o,fw.o,kT.o,by omega,rfl⟩
      |false =>
       repeat(go_big_quiet_step (fail))
       refine wpQuiet_nil ?_;go_wp2_with fail;go_roundg (m.length-(k+1))
       case measure=>exact HJ.o
       case rel=>exact⟨k+1,v*16+d,by go_num,HB3.o,EP.o,fw.o,kT.o,by omega,rfl⟩
   ·obtain rfl:k=m.length:=by omega
    have kT:ae (nx=some v):=by rw[ae,HAk.o,bh];rfl
    have c0:wr.cell? ⟨B,0,none⟩=some (.bool false):=qk.o.cell 0;have c1:wr.cell? ⟨B,1,none⟩=some (.int .u64 ((v%18446744073709551616:Nat):Int)):=qk.o.cell 1;have c2:wr.cell? ⟨B,2,none⟩=some (.bool (decide (18446744073709551616<=v))):=qk.o.cell 2;have r0:wr.cell? ⟨R,0,none⟩=some (.bool false):=wU.o.cell 0;have r1:wr.cell? ⟨R,1,none⟩=some (.int .u64 0):=wU.o.cell 1;have r2:wr.cell? ⟨R,2,none⟩=some (.bool false):=wU.o.cell 2;have rf:=wU.o.frozen;have Gi:ae (aq (((wr.setCell ⟨R,0,none⟩ (.bool false)).setCell ⟨R,1,none⟩ (.int .u64 ((v%18446744073709551616:Nat):Int))).setCell ⟨R,2,none⟩ (.bool (decide (18446744073709551616<=v)))) R #[.bool false,.int .u64 ((v%18446744073709551616:Nat):Int),.bool (decide (18446744073709551616<=v))] 112):=((wU.o.set 0 _).set 1 _).set 2 _;have US:ae (aa af w (((wr.setCell ⟨R,0,none⟩ (.bool false)).setCell ⟨R,1,none⟩ (.int .u64 ((v%18446744073709551616:Nat):Int))).setCell ⟨R,2,none⟩ (.bool (decide (18446744073709551616<=v))))):=by refine((uk.o.set (a:=⟨R,0,none⟩) (.inr ?_) _).set (a:=⟨R,1,none⟩) (.inr ?_) _).set (a:=⟨R,2,none⟩) (.inr ?_) _<;>exact cx hRr
    have HEQ:ae ((aA.mk v false).dP=.agg #[.bool false,.int .u64 ((v%18446744073709551616:Nat):Int),.bool (decide (18446744073709551616<=v))]):=rfl;generalize((v%18446744073709551616:Nat):Int)=u at *;generalize decide (18446744073709551616<=v)=bg at *;go_wp2_with fail;refine bodyPost_ret (au results286 _ _ R 112 _ (0,0) _ _ rfl rfl Gi.o underlying112 rfl (by kernel_rfl)) rfl ⟨?_,US.o⟩;rw[kT.o];show _=Ending.returned (.tuple #[(aA.mk v false).dP,.bool true])
    rw[HEQ.o];rfl
def uo:tAV:=#[.bool false,.int .u64 0,.bool false]
theorem xP(b o:Nat)(cs:tAV)(t:TypeId)(l:tLB)(w:tW)(h:mX w b o cs t l)(hl:l.length<=1000000):Calls prog 229 #[.pointer (some ⟨b,o,none⟩)] w λe w'=>e=.returned (.tuple #[(aA.mk ((aU (aC l).1).getD 0) false).dP,.bool (aU (aC l).1).isSome])/\aN w b o cs t (aC l).2 w':=by
 have m0:aa af w (w.alloc (.cells uo 112)):=(aa.refl _ _).alloc _;have HW:ae (Calls prog 73 #[.pointer (some ⟨b,o,none⟩)] (w.alloc (.cells uo 112)) λe w'=>e=.returned (.string (T (aC l).1))/\aN (w.alloc (.cells uo 112)) b o cs t (aC l).2 w'):=iL b o cs t l _ (h.ah m0) hl;have hle:=kX l;have HR:ae (∀w',Calls prog 286 #[.string (T (aC l).1)] w' λe w''=>e=.returned (.tuple #[(aA.mk ((aU (aC l).1).getD 0) false).dP,.bool (aU (aC l).1).isSome])/\aa af w' w''):=λw'=>Ra _ w' (by omega);have hbl:b<w.heap.size:=h.blk.lt;have HZ:ae (aq (w.alloc (.cells uo 112)) w.heap.size uo 112):=aq.new w _ _;generalize aU (aC l).1=rx at *;generalize aC l=wl at *;obtain⟨w1,w2⟩:=wl;simp only at *;have gq:=ak m0;clear m0;unfold aA.dP uo at *;dsimp only at *;generalize(((rx.getD 0)%18446744073709551616:Nat):Int)=u at *;generalize decide (18446744073709551616<=rx.getD 0)=bg at *;generalize hw0:w.alloc (.cells #[.bool false,.int .u64 0,.bool false] 112)=w0 at *;go_enter func229,ntmps229;go_wp2_with fail;refine HW.o.mono ?_;rintro e wa ⟨rfl,hp⟩;have HP:=ak hp;have HZ1:ae (aq wa w.heap.size #[.bool false,.int .u64 0,.bool false] 112):=HZ.o.ah hp.2 (λe=>by have:w.heap.size=b:=e;omega);clear hp HW HZ;go_wp2_with fail;refine(HR.o _).mono ?_;rintro e wb ⟨rfl,m1⟩;have fq:=ak (HP.o.quiet m1);have HZ2:=ak (HZ1.o.ah m1 id);clear HP HZ1 m1 HR;have z0:wb.cell? ⟨w.heap.size,0,none⟩=some (.bool false):=HZ2.o.cell 0;have z1:wb.cell? ⟨w.heap.size,1,none⟩=some (.int .u64 0):=HZ2.o.cell 1;have z2:wb.cell? ⟨w.heap.size,2,none⟩=some (.bool false):=HZ2.o.cell 2;have zf:=HZ2.o.frozen;go_wp2_with fail;refine bodyPost_ret (au results229 _ _ w.heap.size 112 _ (0,0) _ _ rfl rfl (((HZ2.o.set 0 _).set 1 _).set 2 _) underlying112 rfl (by kernel_rfl)) rfl ⟨rfl,?_⟩;refine⟨⟨?_,fq.o.1.at'⟩,?_⟩
 ·iterate 3 refine aq.setOther ?_ (by simp;omega) _
  exact fq.o.1.blk
 ·iterate 3 refine aa.set ?_ (.inr (by simp)) _
  exact gq.o.of_nil.trans fq.o.2
theorem YQ(l:tLB)(hh:(aH 45 l&&(aL 45 l).head?==some 32)=false):bJ l=(aU (aC (aL 45 l)).1).map (λv=>(⟨v,aH 45 l⟩,(aC (aL 45 l)).2)):=by unfold bJ;rw[iN9 (by simp[hh])]
theorem UW(l:tLB):bj [32] l=(l.head?==some 32):=by
 cases l with
 |nil=>rfl
 |cons c r =>
  show((32==c)&&true)=_
  rw[Bool.and_true,Bool.eq_iff_iff,beq_iff_eq,beq_iff_eq,List.head?_cons,Option.some.injEq];exact eq_comm
def mq(w:tW)(b o:Nat)(cs:tAV)(t:TypeId)(l:tLB)(e:Ending)(w':tW):Prop :=
 ∃n l',e=.returned (.tuple #[aA.dP n,.bool (bJ l).isSome])/\aN w b o cs t l' w'/\l'.length<=l.length/\∀x,bJ l=some x->x=(n,l')
theorem uP(b o:Nat)(cs:tAV)(t:TypeId)(l:tLB)(w:tW)(h:mX w b o cs t l)(hl:l.length<=1000000):Calls prog 134 #[.pointer (some ⟨b,o,none⟩)] w λe w'=>mq w b o cs t l e w':=by
 have m0:aa af w (w.alloc (.cells uo 112)):=(aa.refl _ _).alloc _;have Kl:=rR 45 l;have hwl:=kX (aL 45 l);have HW:ae (Calls prog 74 #[.pointer (some ⟨b,o,none⟩),.int .u8 45] (w.alloc (.cells uo 112)) λe w'=>e=.returned (.bool (aH 45 l))/\aN (w.alloc (.cells uo 112)) b o cs t (aL 45 l) w'):=jh b o cs t l 45 _ (h.ah m0) hl;have Uk:ae (∀w',Calls prog 228 #[.string (T (aL 45 l)),.string (T [32])] w' λe w''=>e=.returned (.bool ((aL 45 l).head?==some 32))/\w''=w'):=λw'=>by rw[<-UW];exact Ki (aL 45 l) [32] w'
 have HR:ae (∀w',mX w' b o (cs.setIfInBounds o (.string (T (aL 45 l)))) t (aL 45 l)->Calls prog 229 #[.pointer (some ⟨b,o,none⟩)] w' λe w''=>e=.returned (.tuple #[(aA.mk ((aU (aC (aL 45 l)).1).getD 0) false).dP,.bool (aU (aC (aL 45 l)).1).isSome])/\aN w' b o (cs.setIfInBounds o (.string (T (aL 45 l)))) t (aC (aL 45 l)).2 w''):=λw' hw'=>xP b o _ t (aL 45 l) w' hw' (by omega);have hbl:b<w.heap.size:=h.blk.lt;have HZ:ae (aq (w.alloc (.cells uo 112)) w.heap.size uo 112):=aq.new w _ _;have Gl:ae ((aH 45 l&&(aL 45 l).head?==some 32)=true->bJ l=none):=λhh=>by unfold bJ;rw[iP9 hh]
 have HL2:ae ((aH 45 l&&(aL 45 l).head?==some 32)=false->bJ l=(aU (aC (aL 45 l)).1).map (λv=>(⟨v,aH 45 l⟩,(aC (aL 45 l)).2))):=YQ l;have HNP:ae (∀e w',(∃n l',e=.returned (.tuple #[aA.dP n,.bool (bJ l).isSome])/\aN w b o cs t l' w'/\l'.length<=l.length/\∀x,bJ l=some x->x=(n,l'))->mq w b o cs t l e w'):=λ_ _ h=>h;generalize mq w b o cs t l=NP at *;generalize aU (aC (aL 45 l)).1=rx at *;generalize aC (aL 45 l)=wl at *;generalize aL 45 l=ml at *;generalize aH 45 l=hm at *;generalize bJ l=nl at *;obtain⟨w1,w2⟩:=wl;simp only at *;have gq:=ak m0;clear m0;generalize hpq:(ml.head?==some 32)=hq at *;have Yc:ae (∀n,aA.dP n=.agg #[.bool n.minus,.int .u64 ((n.v%18446744073709551616:Nat):Int),.bool (decide (18446744073709551616<=n.v))]):=λ_=>rfl;unfold uo at *;generalize hw0:w.alloc (.cells #[.bool false,.int .u64 0,.bool false] 112)=w0 at *;go_enter func134,ntmps134;go_wp2_with fail;refine HW.o.mono ?_;rintro e wa ⟨rfl,hp⟩;have HP:=ak hp;have HZ1:ae (aq wa w.heap.size #[.bool false,.int .u64 0,.bool false] 112):=HZ.o.ah hp.2 (λe=>by have:w.heap.size=b:=e;omega);clear hp HW HZ;have c0:=HP.o.1.cell;go_upto_region 2 with fail;go_cut [16] (λv wx=>v=.bool (hm&&hq)/\wx=wa)
 case first =>
  cases hm with
  |true =>go_wp2_with fail;refine(Uk.o _).mono ?_;rintro e wb ⟨rfl,rfl⟩;go_wp2_with fail;go_meet;exact⟨by simp,rfl⟩
  |false =>go_wp2_with fail;go_meet;exact⟨by simp,rfl⟩
 case rest =>
 obtain⟨rfl,rfl⟩:=hcut;have z0:wc.cell? ⟨w.heap.size,0,none⟩=some (.bool false):=HZ1.o.cell 0;have z1:wc.cell? ⟨w.heap.size,1,none⟩=some (.int .u64 0):=HZ1.o.cell 1;have z2:wc.cell? ⟨w.heap.size,2,none⟩=some (.bool false):=HZ1.o.cell 2;have zf:=HZ1.o.frozen;clear Uk c0;by_cases hh:(hm&&hq)=true
 ·have HN:=ak (Gl.o hh);rw[hh];go_wp2_with fail;refine bodyPost_ret (au results134 _ _ w.heap.size 112 _ (0,0) _ _ rfl rfl (((HZ1.o.set 0 _).set 1 _).set 2 _) underlying112 rfl (by kernel_rfl)) rfl ?_;refine HNP.o _ _ ⟨⟨0,false⟩,ml,?_,⟨⟨?_,HP.o.1.at'⟩,?_⟩,Kl,λx hx=>?_⟩
  ·rw[HN.o];rfl
  ·iterate 3 refine aq.setOther ?_ (by simp;omega) _
   exact HP.o.1.blk
  ·iterate 3 refine aa.set ?_ (.inr (by simp)) _
   exact gq.o.of_nil.trans HP.o.2
  ·rw[HN.o]at hx;cases hx
 ·have wV:(hm&&hq)=false:=by simpa using hh
  have HN:=ak (HL2.o wV);rw[wV];clear hh wV Gl HL2;have jI:=HR.o wc HP.o.1;rw[Yc.o]at jI;dsimp only at jI;generalize hu:(((rx.getD 0)%18446744073709551616:Nat):Int)=u at *;have De:ae (∀v,rx=some v->rx.getD 0=v):=λv e=>by rw[e];rfl
  have HU:ae (∀v,rx=some v->aA.dP ⟨v,hm⟩=.agg #[.bool hm,.int .u64 u,.bool (decide (18446744073709551616<=rx.getD 0))]):=λv e=>by rw[<-hu,Yc.o,e];rfl
  have HU0:ae (aA.dP ⟨rx.getD 0,hm⟩=.agg #[.bool hm,.int .u64 u,.bool (decide (18446744073709551616<=rx.getD 0))]):=by rw[ae,<-hu,Yc.o]
  clear hu Yc HU;generalize decide (18446744073709551616<=rx.getD 0)=bg at *;have EP:=ak jI;clear jI HR z0 z1 z2 zf;go_wp2_with fail;refine EP.o.mono ?_;rintro e wd ⟨rfl,hp⟩;have eT:ae (aN w0 b o cs t w2 wd):=HP.o.after hp;have HZ2:ae (aq wd w.heap.size #[.bool false,.int .u64 0,.bool false] 112):=HZ1.o.ah hp.2 (λe=>by have:w.heap.size=b:=e;omega);clear hp HZ1 HP EP;have hlt:w.heap.size<wd.heap.size:=HZ2.o.lt;have z0:wd.cell? ⟨w.heap.size,0,none⟩=some (.bool false):=HZ2.o.cell 0;have z1:wd.cell? ⟨w.heap.size,1,none⟩=some (.int .u64 0):=HZ2.o.cell 1;have z2:wd.cell? ⟨w.heap.size,2,none⟩=some (.bool false):=HZ2.o.cell 2;have zf:=HZ2.o.frozen;go_wp2_with fail;refine bodyPost_ret (au results134 _ _ w.heap.size 112 _ (0,0) _ _ rfl rfl ((((HZ2.o.set 0 _).set 1 _).set 2 _).alloc _) underlying112 rfl (by kernel_rfl)) rfl ?_;refine HNP.o _ _ ⟨⟨rx.getD 0,hm⟩,w2,?_,⟨⟨?_,eT.o.1.at'⟩,?_⟩,by omega,λx hx=>?_⟩
  ·rw[HU0.o,HN.o,Option.isSome_map];rfl
  ·refine aq.alloc ?_ _
   iterate 3 refine aq.setOther ?_ (by simp;omega) _
   exact eT.o.1.blk
  ·refine aa.alloc ?_ _
   iterate 3 refine aa.set ?_ (.inr (by simp)) _
   exact gq.o.of_nil.trans eT.o.2
  ·rw[HN.o]at hx;obtain⟨v,hv,rfl⟩:=Option.map_eq_some_iff.1 hx;rw[De.o v hv]
structure bK(w:tW)(b:Nat)(op:Value)(x:Option bE)(e:Ending)(w':tW):Prop where
 e:e=.returned (.bool x.isSome)
 md:aa (Only b) w w'
 at':∀r',x=some r'->aq w' b (r'.cells op) 209
theorem nu{w:tW}{b:Nat}{op:Value}{r:bE}(h:aq w b (r.cells op) 209):mX w b 1 (r.cells op) 209 r.rest:=⟨h,rfl⟩
theorem aN.rd{w w':tW}{b:Nat}{op:Value}{r:bE}{l:tLB}(h:aN w b 1 (r.cells op) 209 l w'):aq w' b ({r with rest:=l}.cells op) 209:=h.1.blk
theorem Re{c:UInt8}{r:bE}(h:aH c r.rest=false):r.mark c=none:=by unfold bE.mark;rw[iN9 (by simp[h])]
theorem Rf{c:UInt8}{r:bE}(h:aH c r.rest=true):r.mark c=some {r with rest:=aL c r.rest}:=by unfold bE.mark;rw[iP9 h]
theorem ME(b g:Nat)(c:UInt8)(op:Value)(r:bE)(w:tW)(h:aq w b (r.cells op) 209)(hg:aq w g #[.int .u8 (c.toNat:Int)] 5)(hl:r.rest.length<=1000000):Calls prog 231 #[.pointer (some ⟨b,0,none⟩),.pointer (some ⟨g,0,none⟩)] w λe w'=>bK w b op (r.mark c) e w':=by
 have vY:ae (∀w',aq w' b (r.cells op) 209->Calls prog 74 #[.pointer (some ⟨b,1,none⟩),.int .u8 (c.toNat:Int)] w' λe w''=>e=.returned (.bool (aH c r.rest))/\aN w' b 1 (r.cells op) 209 (aL c r.rest) w''):=λw' h'=>jh b 1 _ _ r.rest c w' (nu h') hl
 have uI:ae (∀e w',e=.returned (.bool (aH c r.rest))->aN w b 1 (r.cells op) 209 (aL c r.rest) w'->bK w b op (r.mark c) e w'):=λe w' he hp=>by
  cases hm:aH c r.rest with
  |true =>rw[Rf hm];exact⟨by rw[he,hm];rfl,hp.2,λr' hr'=>by cases hr';exact hp.rd⟩
  |false =>rw[Re hm];exact⟨by rw[he,hm];rfl,hp.2,λr' hr'=>by cases hr'⟩
 generalize bK w b op (r.mark c)=RP at *;have HB:=ak h.drew;have g0:w.drew.cell? ⟨g,0,none⟩=some (.int .u8 (c.toNat:Int)):=hg.drew.cell 0;have HMD:ae (∀w',aN w.drew b 1 (r.cells op) 209 (aL c r.rest) w'->aN w b 1 (r.cells op) 209 (aL c r.rest) w'):=λw' hp=>⟨hp.1,((aa.refl _ _).drew).trans hp.2⟩
 clear h hg;go_enter func231,ntmps231;go_wp2_with fail;refine dz 4 (by kernel_rfl) (by kernel_rfl) ?_;intro W hW;rw[<-hW]at HB g0 HMD;clear hW;simp only[ao,cb,ar,cc]
 repeat(go_big_quiet_step (fail))
 refine wpQuiet_nil ?_;go_wp2_with fail;refine(vY.o _ HB.o).mono ?_;rintro e w1 ⟨rfl,hp⟩;go_wp2_with fail;exact uI.o _ _ rfl (HMD.o _ hp)
theorem YR(r:bE):r.pQ=match bC (aC r.rest).1 with|some n=>some {r with d:=n,rest:=(aC r.rest).2}|none=>none:=by unfold bE.pQ;cases bC (aC r.rest).1<;>rfl
theorem YS(r:bE):r.wS=match bC (aC r.rest).1 with|some n=>some {r with s:=n,rest:=(aC r.rest).2}|none=>none:=by unfold bE.wS;cases bC (aC r.rest).1<;>rfl
theorem Gm(b:Nat)(op:Value)(r:bE)(w:tW)(h:aq w b (r.cells op) 209)(hl:r.rest.length<=1000000)(hE:∀w',aa (Only b) w w'->Env w'):Calls prog 175 #[.pointer (some ⟨b,0,none⟩)] w λe w'=>bK w b op r.pQ e w':=by
 have vY:ae (Calls prog 139 #[.pointer (some ⟨b,1,none⟩)] w λe w'=>e=.returned (.tuple #[.int .u8 (((bC (aC r.rest).1).getD 0:Nat):Int),.bool (bC (aC r.rest).1).isSome])/\aN w b 1 (r.cells op) 209 (aC r.rest).2 w'):=Kj b 1 _ _ r.rest w (nu h) hl hE
 have uI:ae (∀e w',e=.returned (.bool (bC (aC r.rest).1).isSome)->aa (Only b) w w'->aq w' b ({r with rest:=(aC r.rest).2,d:=(bC (aC r.rest).1).getD 0}.cells op) 209->bK w b op r.pQ e w'):=λe w' he hm hp=>by
  rw[YR];cases hx:bC (aC r.rest).1 with
  |some n=>rw[hx]at he hp;exact⟨by rw[he];rfl,hm,λr' hr'=>by cases hr';exact hp⟩
  |none=>rw[hx]at he;exact⟨by rw[he];rfl,hm,λr' hr'=>by cases hr'⟩
 generalize bK w b op r.pQ=RP at *;generalize bC (aC r.rest).1=rx at *;go_enter func175,ntmps175;go_wp2_with fail;refine vY.o.mono ?_;rintro e w1 ⟨rfl,hp⟩;have hb1:=hp.rd;have z3:w1.cell? ⟨b,3,none⟩=some (.int .u8 (r.d:Int)):=hb1.cell 3;have zf:=hb1.frozen;go_wp2_with fail;exact uI.o _ _ rfl (hp.2.bP 3 _) (hb1.set 3 _)
theorem Rh(b:Nat)(op:Value)(r:bE)(w:tW)(h:aq w b (r.cells op) 209)(hl:r.rest.length<=1000000)(hE:∀w',aa (Only b) w w'->Env w'):Calls prog 138 #[.pointer (some ⟨b,0,none⟩)] w λe w'=>bK w b op r.wS e w':=by
 have vY:ae (Calls prog 139 #[.pointer (some ⟨b,1,none⟩)] w λe w'=>e=.returned (.tuple #[.int .u8 (((bC (aC r.rest).1).getD 0:Nat):Int),.bool (bC (aC r.rest).1).isSome])/\aN w b 1 (r.cells op) 209 (aC r.rest).2 w'):=Kj b 1 _ _ r.rest w (nu h) hl hE
 have uI:ae (∀e w',e=.returned (.bool (bC (aC r.rest).1).isSome)->aa (Only b) w w'->aq w' b ({r with rest:=(aC r.rest).2,s:=(bC (aC r.rest).1).getD 0}.cells op) 209->bK w b op r.wS e w'):=λe w' he hm hp=>by
  rw[YS];cases hx:bC (aC r.rest).1 with
  |some n=>rw[hx]at he hp;exact⟨by rw[he];rfl,hm,λr' hr'=>by cases hr';exact hp⟩
  |none=>rw[hx]at he;exact⟨by rw[he];rfl,hm,λr' hr'=>by cases hr'⟩
 generalize bK w b op r.wS=RP at *;generalize bC (aC r.rest).1=rx at *;go_enter func138,ntmps138;go_wp2_with fail;refine vY.o.mono ?_;rintro e w1 ⟨rfl,hp⟩;have hb1:=hp.rd;have z4:w1.cell? ⟨b,4,none⟩=some (.int .u8 (r.s:Int)):=hb1.cell 4;have zf:=hb1.frozen;go_wp2_with fail;exact uI.o _ _ rfl (hp.2.bP 4 _) (hb1.set 4 _)
theorem UX{r:bE}(h:ahI (aC r.rest).1=false):r.lab=none:=by unfold bE.lab;rw[iN9 (by simp[h])]
theorem UY{r:bE}(h:ahI (aC r.rest).1=true):r.lab=some {r with label:=(aC r.rest).1,rest:=(aC r.rest).2}:=by unfold bE.lab;rw[iP9 h]
theorem Ri(b:Nat)(op:Value)(r:bE)(w:tW)(h:aq w b (r.cells op) 209)(hl:r.rest.length<=1000000):Calls prog 178 #[.pointer (some ⟨b,0,none⟩)] w λe w'=>bK w b op r.lab e w':=by
 have vY:ae (Calls prog 78 #[.pointer (some ⟨b,1,none⟩)] w λe w'=>e=.returned (.tuple #[.string (T (aC r.rest).1),.bool (ahI (aC r.rest).1)])/\aN w b 1 (r.cells op) 209 (aC r.rest).2 w'):=qF b 1 _ _ r.rest w (nu h) hl
 have uI:ae (∀e w',e=.returned (.bool (ahI (aC r.rest).1))->aa (Only b) w w'->aq w' b ({r with rest:=(aC r.rest).2,label:=(aC r.rest).1}.cells op) 209->bK w b op r.lab e w'):=λe w' he hm hp=>by
  cases hx:ahI (aC r.rest).1 with
  |true=>rw[UY hx];exact⟨by rw[he,hx];rfl,hm,λr' hr'=>by cases hr';exact hp⟩
  |false=>rw[UX hx];exact⟨by rw[he,hx];rfl,hm,λr' hr'=>by cases hr'⟩
 generalize bK w b op r.lab=RP at *;generalize ahI (aC r.rest).1=rx at *;go_enter func178,ntmps178;go_wp2_with fail;refine vY.o.mono ?_;rintro e w1 ⟨rfl,hp⟩;have hb1:=hp.rd;have z8:w1.cell? ⟨b,8,none⟩=some (.string (T r.label)):=hb1.cell 8;have zf:=hb1.frozen;go_wp2_with fail;exact uI.o _ _ rfl (hp.2.bP 8 _) (hb1.set 8 _)
def bE.EZ(r:bE)(o:Option Int):bE:={r with far:=r.far||o.isNone}
theorem uQ(b:Nat)(op:Value)(r:bE)(n:aA)(bits:Int)(half:Nat)(w:tW)(h:aq w b (r.cells op) 209)(hS:∀w,Calls prog 215 #[n.dP,.int .i64 bits] w λe w'=>e=.returned (.tuple #[.int .i64 ((n.aO half).getD 0),.bool (n.aO half).isSome])/\aa af w w'):Calls prog 144 #[.pointer (some ⟨b,0,none⟩),n.dP,.int .i64 bits] w λe w'=>e=.returned (.int .i64 ((n.aO half).getD 0))/\aq w' b ((r.EZ (n.aO half)).cells op) 209/\aa (Only b) w w':=by
 have HS:=ak hS;have HF:ae (∀w',aq w' b ({r with far:=r.far||!(n.aO half).isSome}.cells op) 209->aq w' b ((r.EZ (n.aO half)).cells op) 209):=λw' h'=>by unfold bE.EZ;rw[<-cy];exact h'
 generalize(r.EZ (n.aO half)).cells op=fc at *;unfold aA.dP at *;generalize((n.v%18446744073709551616:Nat):Int)=u at *;generalize decide (18446744073709551616<=n.v)=bg at *;generalize n.aO half=sg at *;generalize n.minus=mi at *;clear hS;have h1:aq (w.alloc (.cells #[.bool mi,.int .u64 u,.bool bg] 112)) b (r.cells op) 209:=h.alloc _;have HB:=ak h1;have HM:ae (aa (Only b) w (w.alloc (.cells #[.bool mi,.int .u64 u,.bool bg] 112))):=(aa.refl _ _).alloc _;clear h h1;go_enter func144,ntmps144;go_wp2_with fail;refine(HS.o _).mono ?_;rintro e w1 ⟨rfl,m1⟩;have HB1:=ak (HB.o.ah m1 id);have iG:=ak (HM.o.trans m1.of_nil);clear m1 HB HM HS;have z10:w1.cell? ⟨b,10,none⟩=some (.bool r.far):=HB1.o.cell 10;have zf:=HB1.o.frozen;generalize hfr:r.far=fr at *;cases fr with
 |true =>
  go_wp2_with fail;go_ret;refine⟨rfl,HF.o _ ?_,iG.o.bP 10 _⟩;have:=HB1.o.set 10 (.bool true);have e:(r.cells op).setIfInBounds 10 (.bool true)=({r with far:=true||!sg.isSome}).cells op:=by unfold bE.cells;rfl
  rw[e]at this;exact this
 |false =>
  go_wp2_with fail;go_ret;refine⟨rfl,HF.o _ ?_,iG.o.bP 10 _⟩;have:=HB1.o.set 10 (.bool sg.isNone);have e:(r.cells op).setIfInBounds 10 (.bool sg.isNone)=({r with far:=false||!sg.isSome}).cells op:=by unfold bE.cells;simp
  rw[e]at this;exact this
def bE.Rj(r:bE)(o:Option Nat):bE:={r with far:=r.far||o.isNone}
theorem Rk(b:Nat)(op:Value)(r:bE)(n:aA)(w:tW)(h:aq w b (r.cells op) 209):Calls prog 248 #[.pointer (some ⟨b,0,none⟩),n.dP] w λe w'=>e=.returned (.int .u64 ((n.bT.getD 0:Nat):Int))/\aq w' b ((r.Rj n.bT).cells op) 209/\aa (Only b) w w':=by
 have HS:ae (∀w,Calls prog 289 #[n.dP] w λe w'=>e=.returned (.tuple #[.int .u64 ((n.bT.getD 0:Nat):Int),.bool n.bT.isSome])/\aa af w w'):=λw=>UU n w;have HF:ae (∀w',aq w' b ({r with far:=r.far||!n.bT.isSome}.cells op) 209->aq w' b ((r.Rj n.bT).cells op) 209):=λw' h'=>by unfold bE.Rj;rw[<-cy];exact h'
 generalize(r.Rj n.bT).cells op=fc at *;unfold aA.dP at *;generalize((n.v%18446744073709551616:Nat):Int)=u at *;generalize decide (18446744073709551616<=n.v)=bg at *;generalize n.bT=sg at *;generalize n.minus=mi at *;have h1:aq (w.alloc (.cells #[.bool mi,.int .u64 u,.bool bg] 112)) b (r.cells op) 209:=h.alloc _;have HB:=ak h1;have HM:ae (aa (Only b) w (w.alloc (.cells #[.bool mi,.int .u64 u,.bool bg] 112))):=(aa.refl _ _).alloc _;clear h h1;go_enter func248,ntmps248;go_wp2_with fail;refine(HS.o _).mono ?_;rintro e w1 ⟨rfl,m1⟩;have HB1:=ak (HB.o.ah m1 id);have iG:=ak (HM.o.trans m1.of_nil);clear m1 HB HM HS;have z10:w1.cell? ⟨b,10,none⟩=some (.bool r.far):=HB1.o.cell 10;have zf:=HB1.o.frozen;generalize hfr:r.far=fr at *;cases fr with
 |true =>
  go_wp2_with fail;go_ret;refine⟨rfl,HF.o _ ?_,iG.o.bP 10 _⟩;have:=HB1.o.set 10 (.bool true);have e:(r.cells op).setIfInBounds 10 (.bool true)=({r with far:=true||!sg.isSome}).cells op:=by unfold bE.cells;rfl
  rw[e]at this;exact this
 |false =>
  go_wp2_with fail;go_ret;refine⟨rfl,HF.o _ ?_,iG.o.bP 10 _⟩;have:=HB1.o.set 10 (.bool sg.isNone);have e:(r.cells op).setIfInBounds 10 (.bool sg.isNone)=({r with far:=false||!sg.isSome}).cells op:=by unfold bE.cells;simp
  rw[e]at this;exact this
theorem oh(n:aA)(half:Nat)(hh:1<=half):-(half:Int)<=(n.aO half).getD 0/\(n.aO half).getD 0<half:=by
 unfold aA.aO;split
 ·simp;omega
 ·split
  ·split
   ·simp;omega
   ·simp;omega
  ·split
   ·simp;omega
   ·simp;omega
theorem Rl(b:Nat)(op:Value)(r:bE)(w:tW)(h:aq w b (r.cells op) 209)(hl:r.rest.length<=1000000):Calls prog 143 #[.pointer (some ⟨b,0,none⟩)] w λe w'=>bK w b op r.number e w':=by
 have vY:ae (Calls prog 134 #[.pointer (some ⟨b,1,none⟩)] w λe w'=>mq w b 1 (r.cells op) 209 r.rest e w'):=uP b 1 _ _ r.rest w (nu h) hl
 have uI:ae (∀e w' n l',e=.returned (.bool (bJ r.rest).isSome)->aa (Only b) w w'->(∀x,bJ r.rest=some x->x=(n,l'))->aq w' b ({r with rest:=l',num:=(n.aO 2147483648).getD 0,far:=r.far||(n.aO 2147483648).isNone}.cells op) 209->bK w b op r.number e w'):=λe w' n l' he hm hx hp=>by
  unfold bE.number;cases hn:bJ r.rest with
  |some x =>have:=hx x hn;subst this;exact⟨by rw[he,hn];rfl,hm,λr' hr'=>by cases hr';exact hp⟩
  |none=>exact⟨by rw[he,hn];rfl,hm,λr' hr'=>by cases hr'⟩
 generalize bK w b op r.number=RP at *;have HNP:ae (∀e w',mq w b 1 (r.cells op) 209 r.rest e w'->∃n l',e=.returned (.tuple #[aA.dP n,.bool (bJ r.rest).isSome])/\aN w b 1 (r.cells op) 209 l' w'/\l'.length<=r.rest.length/\∀x,bJ r.rest=some x->x=(n,l')):=λ_ _ h=>h;generalize mq w b 1 (r.cells op) 209 r.rest=NP at *;generalize bJ r.rest=nl at *;go_enter func143,ntmps143;go_wp2_with fail;refine vY.o.mono ?_;intro e w1 hn;obtain⟨n,l',rfl,hp,hle,hx⟩:=HNP.o _ _ hn;have HX:=ak hx;clear hn hx vY HNP hle;have hr:=oh n 2147483648 (by omega);have HB1:ae (∀cs,aq (w1.alloc (.cells cs 112)) b ({r with rest:=l'}.cells op) 209):=λcs=>hp.rd.alloc _;have iG:ae (∀cs,aa (Only b) w (w1.alloc (.cells cs 112))):=λcs=>hp.2.alloc _;clear hp;have HS:ae (∀w',aq w' b ({r with rest:=l'}.cells op) 209->Calls prog 144 #[.pointer (some ⟨b,0,none⟩),n.dP,.int .i64 32] w' λe w''=>e=.returned (.int .i64 ((n.aO 2147483648).getD 0))/\aq w'' b ((bE.EZ {r with rest:=l'} (n.aO 2147483648)).cells op) 209/\aa (Only b) w' w''):=λw' h'=>uQ b op _ n 32 2147483648 w' h' (Ii n);have abI:ae (∀e w',e=.returned (.bool nl.isSome)->aa (Only b) w w'->aq w' b ({r with rest:=l',num:=(n.aO 2147483648).getD 0,far:=r.far||(n.aO 2147483648).isNone}.cells op) 209->RP e w'):=λe w' he hm=>uI.o e w' n l' he hm HX.o;clear uI HX;unfold bE.EZ at *;generalize n.aO 2147483648=sg at *;unfold aA.dP at *;generalize((n.v%18446744073709551616:Nat):Int)=u at *;generalize decide (18446744073709551616<=n.v)=bg at *;generalize n.minus=mi at *;generalize hvv:sg.getD 0=vv at *;obtain⟨hr0,hr1⟩:=hr;go_wp2_with fail;refine(HS.o _ (HB1.o _)).mono ?_;rintro e w2 ⟨rfl,hb2,m2⟩;have ep:ae (aa (Only b) w w2):=(iG.o _).trans m2;have z6:w2.cell? ⟨b,6,none⟩=some (.int .i32 r.num):=hb2.cell 6;have zf:=hb2.frozen;have HB2:=ak hb2;clear hb2 m2 HB1 iG HS;go_wp2_with fail;exact abI.o _ _ rfl (ep.o.bP 6 _) (HB2.o.set 6 _)
