import Derived.Test.YthnphhgpfedeeaaGreatDoorCF03
import Derived.Test.YthnphhgpfedeeaaGreatDoorCF08
namespace Go.Proofs.YthnphhgpfedeeaaGreatDoor
open Go.RowKit Tryz
open _root_.Array renaming toList_extract->ba
open Lib renaming itoa->bh
open List renaming extract_eq_take_drop->ab,drop_length->al,take_of_length_le->ao,dropWhile_sublist->aE,takeWhile_cons->bj,dropWhile_cons->bq,take_succ_cons->bt,drop_succ_cons->bO,take_length->b9
open Nat renaming mod_eq_of_lt->an,zero_le->ar,lt_or_ge->bQ,le_of_eq->b5
set_option linter.all false
set_option maxRecDepth 100000
set_option maxHeartbeats 2000000
theorem yq(l:tLB)(n:Nat):(T l).extract 0 n=T (l.take n):=by
 have:((T l).extract 0 n).data.toList=l.take n:=by rw[ByteArray.data_extract,ba,ab];simp[T]
 rw[<-this];rfl
theorem lT(l:tLB)(n:Nat):(T l).extract n (T l).size=T (l.drop n):=by
 have:((T l).extract n (T l).size).data.toList=l.drop n:=by
  rw[ByteArray.data_extract,ba,ab];rw[bG];show(l.drop n).take (l.length-n)=l.drop n
  exact ao (by simp)
 rw[<-this];rfl
theorem jX:(T []).toList.isEmpty=true:=qN rfl
theorem gQ(b:UInt8)(l:tLB):(T (b::l)).toList.isEmpty=false:=rz (by rw[bG];simp)
theorem pW(c:Int)(w:tW):Calls prog 252 #[.int .u8 c] w λe w'=>e=.returned (.bool (pI c))/\w'=w:=by
 by_cases h1:97<=c
 ·go_enter func252,ntmps252;go_wp2;go_ret;exact⟨by simp[pI,h1],rfl⟩
 ·go_enter func252,ntmps252;go_wp2;go_ret;exact⟨by simp[pI];omega,rfl⟩
theorem lU(c:Int)(w:tW):Calls prog 301 #[.int .u8 c] w λe w'=>e=.returned (.bool (lI c))/\w'=w:=by
 by_cases h1:48<=c
 ·go_enter func301,ntmps301;go_wp2;go_ret;exact⟨by simp[lI,h1],rfl⟩
 ·go_enter func301,ntmps301;go_wp2;go_ret;exact⟨by simp[lI];omega,rfl⟩
theorem kS(c:Int)(w:tW):Calls prog 251 #[.int .u8 c] w λe w'=>e=.returned (.bool (ru c))/\w'=w:=by
 cases hd:lI c<;>cases hs:pI c
 all_goals
  go_enter func251,ntmps251;go_wp2_with (first |(go_at_call 301;refine(lU _ _).mono ?_;rintro e w' ⟨rfl,rfl⟩) |(go_at_call 252;refine(pW _ _).mono ?_;rintro e w' ⟨rfl,rfl⟩));go_ret;exact⟨by simp[ru,hd,hs],rfl⟩
theorem rP(s:tBA)(w:tW)(hs:s.size<=maxLen):Calls prog 139 #[.string s] w λe w'=>e=.returned (.bool (nameB s.data.toList))/\w'=w:=by
 unfold maxLen at hs;by_cases h0:0<s.size
 ·have he:=rz h0;have HN:af (_=_):=RC h0;by_cases h1:s.size<=16
  ·have hb:((s.size:Int)<=16):=by omega
   cases h2:pI (s[0].toNat:Int)with
   |false =>go_enter func139,ntmps139;go_wp2_with (go_at_call 252;refine(pW _ _).mono ?_;rintro e w' ⟨rfl,rfl⟩);go_ret;exact⟨rA (by rw[HN.o,h2];simp),rfl⟩
   |true =>
    go_enter func139,ntmps139;go_wp2_with (go_at_call 252;refine(pW _ _).mono ?_;rintro e w' ⟨rfl,rfl⟩);go_loop [19] (λi=>∃k:Nat,k<=s.size/\i=.int .i64 k/\(s.data.toList.take k).all (λc=>ru (c.toNat:Int))=true) (λi=>s.size-(intOf i).toNat)
    case atStart=>exact⟨0,ar _,rfl,rfl⟩
    case round =>
     obtain⟨k,hk,rfl,hall⟩:=hrel;have HA:=ai hall;clear hall;by_cases hlt:k<s.size
     ·cases hp:ru (s[k].toNat:Int)with
      |false =>go_wp2_with (go_at_call 251;refine(kS _ _).mono ?_;rintro e w' ⟨rfl,rfl⟩);go_ret;exact⟨rA (by rw[HN.o,JC hlt hp];simp),rfl⟩
      |true =>
       go_wp2_with (go_at_call 251;refine(kS _ _).mono ?_;rintro e w' ⟨rfl,rfl⟩);go_round
       case rel=>exact⟨k+1,by omega,by go_num,by rw[Nn s k hlt];simp[HA.o,hp]⟩
       case measure=>simp[intOf];omega
     ·go_wp2;go_ret;have ht:s.data.toList.take k=s.data.toList:=ao (by simp;omega);exact⟨rA (by rw[HN.o,h2,<-ht,HA.o];simp[h1]),rfl⟩
  ·have hb:¬((s.size:Int)<=16):=by omega
   go_enter func139,ntmps139;go_wp2_with (go_at_call 252;refine(pW _ _).mono ?_;rintro e w' ⟨rfl,rfl⟩);go_ret;exact⟨rA (by rw[HN.o];simp[h1]),rfl⟩
 ·have he:=qN (s:=s) (by omega);have hz:af (_=_):=JB (s:=s) (by omega);go_enter func139,ntmps139;go_wp2;go_ret;exact⟨rA hz.o.symm,rfl⟩
structure kT(w:tW)(b o:Nat)(cs:tAV)(t:TypeId)(l:tLB):Prop where
 blk:ak w b cs t
 at':cs[o]?=some (.string (T l))
theorem kT.set{w:tW}{b o:Nat}{cs:tAV}{t:TypeId}{l:tLB}(h:kT w b o cs t l)(l':tLB):kT (w.setCell ⟨b,o,none⟩ (.string (T l'))) b o (cs.setIfInBounds o (.string (T l'))) t l' :=
 ⟨h.blk.set o _,by
  have:o<cs.size:=(Array.getElem?_eq_some_iff.1 h.at').1;simp[Array.getElem?_setIfInBounds,this]⟩
theorem kT.cell{w:tW}{b o:Nat}{cs:tAV}{t:TypeId}{l:tLB}(h:kT w b o cs t l):w.cell? ⟨b,o,none⟩=some (.string (T l)):=(h.blk.cell o).trans h.at'
theorem kT.frozen{w:tW}{b o:Nat}{cs:tAV}{t:TypeId}{l:tLB}(h:kT w b o cs t l):w.frozen? ⟨b,o,none⟩=false:=h.blk.frozen o
theorem kT.ag{w w':tW}{b o:Nat}{cs:tAV}{t:TypeId}{l:tLB}(h:kT w b o cs t l)(m:aa ae w w'):kT w' b o cs t l:=⟨h.blk.ag m id,h.at'⟩
theorem set_set(cs:tAV)(o:Nat)(v v':Value):(cs.setIfInBounds o v).setIfInBounds o v'=cs.setIfInBounds o v':=by
 apply Array.ext
 ·simp
 ·intro i h1 h2;simp only[Array.size_setIfInBounds]at h1 h2;by_cases e:o=i<;>simp[Array.getElem_setIfInBounds,e]
theorem Nq(l:tLB)(w:tW):Calls prog 300 #[.string (T l),.string ⟨#[32]⟩] w λe w'=>e=.returned (.string (T (ay l)))/\w'=w:=by
 have h:=Any.strings_TrimLeft_one lt (T l) 32 (by decide) w;have e:(T l).data.toList=l:=by simp[T]
 rw[e]at h;exact h
theorem Gd(l p:tLB)(w:tW):Calls prog 271 #[.string (T l),.string (T p)] w λe w'=>e=.returned (.bool (p.isPrefixOf l))/\w'=w:=by
 have h:=Any.strings_HasPrefix lp (T l) (T p) w;have e:∀l,(T l).data.toList=l:=λl=>by simp[T]
 rw[e,e]at h;exact h
theorem Ag(b o:Nat)(cs:tAV)(t:TypeId)(l:tLB)(w:tW)(h:kT w b o cs t l):Calls prog 250 #[.pointer (some ⟨b,o,none⟩)] w λe w'=>e=.returned (.tuple #[])/\w'=w.setCell ⟨b,o,none⟩ (.string (T (ay l))):=by have c0:=h.cell;have f0:=h.frozen;go_enter func250,ntmps250;go_wp2_with fail;refine(Nq l _).mono ?_;rintro e w1 ⟨rfl,rfl⟩;go_wp2_with fail;go_end0;exact⟨rfl,rfl⟩
def aQ(w:tW)(b o:Nat)(cs:tAV)(t:TypeId)(l':tLB)(w':tW):Prop:=kT w' b o (cs.setIfInBounds o (.string (T l'))) t l'/\aa (Only b) w w'
theorem nZ(b o:Nat)(cs:tAV)(t:TypeId)(l:tLB)(w:tW)(h:kT w b o cs t l):Calls prog 136 #[.pointer (some ⟨b,o,none⟩)] w λe w'=>e=.returned (.bool (decide (ay l=[])))/\aQ w b o cs t (ay l) w':=by
 have HP:af (aQ w b o cs t (ay l) (w.setCell ⟨b,o,none⟩ (.string (T (ay l))))):=⟨h.set _,ax.aY o _⟩
 have c1:=(h.set (ay l)).cell;have HK:af (Calls prog 250 #[.pointer (some ⟨b,o,none⟩)] w λe w'=>e=.returned (.tuple #[])/\w'=w.setCell ⟨b,o,none⟩ (.string (T (ay l)))):=Ag b o cs t l w h;generalize ay l=m at *;cases m with
 |nil =>have he:=jX;go_enter func136,ntmps136;go_wp2_with fail;refine HK.o.mono ?_;rintro e w1 ⟨rfl,rfl⟩;go_wp2_with fail;go_ret;exact⟨by simp,HP.o⟩
 |cons c m =>have he:=gQ c m;go_enter func136,ntmps136;go_wp2_with fail;refine HK.o.mono ?_;rintro e w1 ⟨rfl,rfl⟩;go_wp2_with fail;go_ret;exact⟨by simp,HP.o⟩
theorem iR(l:tLB):(ay l).length<=l.length:=(aE _).length_le
theorem iG(b o:Nat)(cs:tAV)(t:TypeId)(l:tLB)(c:UInt8)(w:tW)(h:kT w b o cs t l)(hl:l.length<=1000000):Calls prog 138 #[.pointer (some ⟨b,o,none⟩),.int .u8 (c.toNat:Int)] w λe w'=>e=.returned (.bool (aP c l))/\aQ w b o cs t (aN c l) w':=by
 have h1:=h.set (ay l);have HP:af (aQ w b o cs t (ay l) (w.setCell ⟨b,o,none⟩ (.string (T (ay l))))):=⟨h1,ax.aY o _⟩
 have c1:=h1.cell;have f1:=h1.frozen;have hsl:=iR l;have HM:af (aP c l=((ay l).head?==some c)):=rfl;have HL:af (aN c l=if aP c l then(ay l).tail else ay l):=rfl;have HK:af (Calls prog 250 #[.pointer (some ⟨b,o,none⟩)] w λe w'=>e=.returned (.tuple #[])/\w'=w.setCell ⟨b,o,none⟩ (.string (T (ay l)))):=Ag b o cs t l w h;generalize aP c l=hm at *;generalize aN c l=ml at *;generalize ay l=m at *;cases m with
 |nil =>have he:=jX;have hm':hm=false:=HM.o;subst hm';have HL2:=ai HL.o;go_enter func138,ntmps138;go_wp2_with fail;refine HK.o.mono ?_;rintro e w1 ⟨rfl,rfl⟩;go_wp2_with fail;go_ret;rw[HL2.o];exact⟨rfl,HP.o⟩
 |cons d m =>
  have he:=gQ d m;have hd:=d.toNat_lt;have hc:=c.toNat_lt;have hs:(T (d::m)).size=m.length+1:=bG _;have hg:(T (d::m))[0]'(by rw[hs];omega)=d:=rfl;simp only[List.length_cons]at hsl;by_cases e:d=c
  ·subst e;have hm':hm=true:=by rw[HM.o];simp
   subst hm';have HL2:=ai HL.o;have e2:(T (d::m)).extract 1 (m.length+1)=T m:=by have:=lT (d::m) 1;rw[hs]at this;exact this
   have hq:((d.toNat:Int) !=(d.toNat:Int))=false:=by simp
   have kD:af (aQ w b o cs t m ((w.setCell ⟨b,o,none⟩ (.string (T (d::m)))).setCell ⟨b,o,none⟩ (.string (T m)))):=by have:=h1.set m;rw[set_set]at this;exact⟨this,HP.o.2.aY o _⟩
   go_enter func138,ntmps138;go_wp2_with fail;refine HK.o.mono ?_;rintro e w1 ⟨rfl,rfl⟩;go_wp2_with fail;go_ret;rw[HL2.o];exact⟨rfl,kD.o⟩
  ·have hm':hm=false:=by rw[HM.o];simpa using e
   subst hm';have HL2:=ai HL.o;have hq:((d.toNat:Int) !=(c.toNat:Int))=true:=by rw[bne_iff_ne];exact λh=>e (UInt8.toNat_inj.1 (by omega))
   go_enter func138,ntmps138;go_wp2_with fail;refine HK.o.mono ?_;rintro e w1 ⟨rfl,rfl⟩;go_wp2_with fail;go_ret;rw[HL2.o];exact⟨rfl,HP.o⟩
theorem kF(p:UInt8->Bool):∀(l:tLB) (k:Nat),(∀(h:k<l.length),p l[k]=false)->k<=l.length->(∀j (hj:j<k) (h:j<l.length),p l[j]=true)->l.takeWhile p=l.take k/\l.dropWhile p=l.drop k
 |[],k,_,hk,_=>by
  have:k=0:=by simpa using hk
  subst this;simp
 |c::l,0,h0,_,_=>by have:=h0 (by simp);simp only[List.getElem_cons_zero]at this;simp[bj,bq,this]
 |c::l,k+1,h0,hk,hj=>by have hc:p c=true:=hj 0 (by omega) (by simp);have ih:=kF p l k (λh=>by have:=h0 (by simp;omega);simpa using this) (by simpa using hk) (λj hjk h=>by have:=hj (j+1) (by omega) (by simp;omega);simpa using this);simp[bj,bq,hc,ih.1,ih.2]
theorem il(b o:Nat)(cs:tAV)(t:TypeId)(l:tLB)(w:tW)(h:kT w b o cs t l)(hl:l.length<=1000000):Calls prog 137 #[.pointer (some ⟨b,o,none⟩)] w λe w'=>e=.returned (.string (T (aG l).1))/\aQ w b o cs t (aG l).2 w':=by
 have h1:=h.set (ay l);have HP:af (aQ w b o cs t (ay l) (w.setCell ⟨b,o,none⟩ (.string (T (ay l))))):=⟨h1,ax.aY o _⟩
 have hsl:=iR l;have HW:af (aG l=((ay l).takeWhile iy,(ay l).dropWhile iy)):=rfl;have HK:af (Calls prog 250 #[.pointer (some ⟨b,o,none⟩)] w λe w'=>e=.returned (.tuple #[])/\w'=w.setCell ⟨b,o,none⟩ (.string (T (ay l)))):=Ag b o cs t l w h;generalize aG l=wl at *;generalize ay l=m at *;generalize hw1:w.setCell ⟨b,o,none⟩ (.string (T m))=wk at *;have hs:(T m).size=m.length:=bG _;clear h hw1;go_enter func137,ntmps137;go_wp2_with fail;refine HK.o.mono ?_;rintro e w1 ⟨rfl,rfl⟩;go_wp2_with fail;go_loopw [3] (λv wx=>∃k:Nat,k<=m.length/\v=.int .i64 k/\aQ w b o cs t m wx/\∀j (hj:j<k) (h:j<m.length),iy m[j]=true) (λv _=>m.length-(intOf v).toNat)
 case atStart=>exact⟨0,ar _,rfl,HP.o,λj hj=>absurd hj (Nat.not_lt_zero _)⟩
 case round =>
  obtain⟨k,hk,rfl,hP,hA⟩:=hrel;have HPk:=ai hP;have HA:=ai hA;have c1:=HPk.o.1.cell;have f1:=HPk.o.1.frozen;clear hP hA HK;by_cases hlt:k<m.length
  ·have hg:(T m)[k]'(by rw[hs];exact hlt)=m[k]:=rfl;have hb:=(m[k]).toNat_lt;cases hc:iy m[k]with
   |true =>
    have hc':ru ((m[k]).toNat:Int)=true:=hc;go_wp2_with (go_at_call 251;refine(kS _ _).mono ?_;rintro e w' ⟨rfl,rfl⟩);go_roundw
    case rel=>exact⟨k+1,by omega,by go_num,HPk.o,λj hj h=>by
     rcases bQ j k with e|e
     ·exact HA.o j e h
     ·have:j=k:=by omega
      subst this;exact hc⟩
    case measure=>simp[intOf];omega
   |false =>
    have hc':ru ((m[k]).toNat:Int)=false:=hc;obtain⟨e1,e2⟩:=kF iy m k (λ_=>hc) hk HA.o;have HW2:af (wl=(m.take k,m.drop k)):=by rw[af,HW.o,e1,e2]
    have x1:(T m).extract 0 k=T (m.take k):=yq m k;have x2:(T m).extract k m.length=T (m.drop k):=by have:=lT m k;rw[hs]at this;exact this
    have kD:af (aQ w b o cs t (m.drop k) (wr.setCell ⟨b,o,none⟩ (.string (T (m.drop k))))):=by have:=HPk.o.1.set (m.drop k);rw[set_set]at this;exact⟨this,HPk.o.2.aY o _⟩
    clear e1 e2 HW;go_wp2_with (go_at_call 251;refine(kS _ _).mono ?_;rintro e w' ⟨rfl,rfl⟩);go_ret;rw[HW2.o];exact⟨rfl,kD.o⟩
  ·have hke:k=m.length:=by omega
   subst hke;obtain⟨e1,e2⟩:=kF iy m m.length (λh=>absurd h (Nat.lt_irrefl _)) hk HA.o;have HW2:af (wl=(m,[])):=by rw[af,HW.o,e1,e2,b9,al]
   have x1:(T m).extract 0 m.length=T m:=by rw[yq,b9]
   have x2:(T m).extract m.length m.length=T []:=by have:=lT m m.length;rw[hs,al]at this;exact this
   have kD:af (aQ w b o cs t [] (wr.setCell ⟨b,o,none⟩ (.string (T [])))):=by have:=HPk.o.1.set [];rw[set_set]at this;exact⟨this,HPk.o.2.aY o _⟩
   clear e1 e2 HW;go_wp2_with fail;go_ret;rw[HW2.o];exact⟨rfl,kD.o⟩
theorem aQ.quiet{w w1 w2:tW}{b o:Nat}{cs:tAV}{t:TypeId}{l:tLB}(h:aQ w b o cs t l w1)(m:aa ae w1 w2):aQ w b o cs t l w2:=⟨h.1.ag m,h.2.trans m.of_nil⟩
theorem aQ.after{w w1 w2:tW}{b o:Nat}{cs:tAV}{t:TypeId}{l l':tLB}(h:aQ w b o cs t l w1)(k:aQ w1 b o (cs.setIfInBounds o (.string (T l))) t l' w2):aQ w b o cs t l' w2:=by have h1:=k.1;rw[set_set]at h1;exact⟨h1,h.2.trans k.2⟩
theorem kK(l:tLB):(aG l).1.length<=l.length/\(aG l).2.length<=l.length:=by have h:=iR l;have h1:((ay l).takeWhile iy).length<=(ay l).length:=(List.takeWhile_sublist _).length_le;have h2:((ay l).dropWhile iy).length<=(ay l).length:=(aE _).length_le;exact⟨Nat.le_trans h1 h,Nat.le_trans h2 h⟩
theorem pX(c:UInt8)(l:tLB):(aN c l).length<=l.length:=by
 have h:=iR l;unfold aN;split
 ·have:(ay l).tail.length<=(ay l).length:=by simp
  omega
 ·exact h
theorem nz{a b:tLB}(h:T a=T b):a=b:=by
 have:=congrArg (λx:tBA=>x.data.toList) h
 simpa [T]using this
theorem Wo{w:tLB}{k:Nat}(hk:k<11)(h:w=uS k)(hj:∀j,j<k->w≠uS j):aZ w=some k:=by
 unfold aZ;rw[List.find?_range_eq_some];refine⟨by simp[h],by simpa using hk,λj hjk=>?_⟩;have:=hj j hjk
 simpa using this
theorem RN{w:tLB}(hj:∀j,j<11->w≠uS j):aZ w=none:=by
 unfold aZ;rw[List.find?_range_eq_none];intro j h;have:=hj j h
 simpa using this
theorem C8(x:tLB)(w:tW)(hE:Env w)(hx:x.length<=1000000):Calls prog 270 #[.string (T x)] w λe w'=>e=.returned (.tuple #[.int .u8 (((aZ x).getD 0:Nat):Int),.bool (aZ x).isSome])/\aa ae w w':=by
 have HH:af (∀k,k<11->x=uS k->(∀j,j<k->x≠uS j)->aZ x=some k):=λk=>Wo;have HZ:af ((∀j,j<11->x≠uS j)->aZ x=none):=RN;generalize aZ x=rx at *;go_enter func270,ntmps270;go_wp2_with fail;go_loopw [5] (λv wx=>∃k:Nat,k<=11/\v=.int .i64 k/\aa ae w wx/\∀j,j<k->x≠uS j) (λv _=>11-(intOf v).toNat)
 case atStart=>exact⟨0,ar _,rfl,ax,λj hj=>absurd hj (Nat.not_lt_zero _)⟩
 case round =>
  obtain⟨k,hk,rfl,hm,hj⟩:=hrel;have HM:=ai hm;have HJ:=ai hj;clear hm hj;by_cases hlt:k<11
  ·have hil:=RH (k:Int) (by omega) (by omega);rw[<-bG]at hil;have HE:af (T (uS k)=(⟨#[114]⟩:tBA)++T (bh (k:Int))):=by rw[af,uS];exact rF [114] _
   go_wp2_with fail;refine(RG (k:Int) (by omega) (by omega) _ (hE.ag HM.o)).mono ?_;rintro e w1 ⟨rfl,m1⟩;have dh:=ai (HM.o.trans m1);clear m1;by_cases hxk:x=uS k
   ·have HR:=ai (HH.o k hlt hxk HJ.o);have hq:((T x).toList==((⟨#[114]⟩:tBA)++T (bh (k:Int))).toList)=true:=En (by rw[hxk,HE.o]);generalize T (bh (k:Int))=sd at *;clear HE hxk;go_wp2_with fail;go_ret2;rw[HR.o];exact⟨rfl,dh.o⟩
   ·have hq:((T x).toList==((⟨#[114]⟩:tBA)++T (bh (k:Int))).toList)=false:=uR (λe=>hxk (by rw[<-HE.o]at e;exact nz e));generalize T (bh (k:Int))=sd at *;have HX:=ai hxk;clear HE hxk;go_wp2_with fail;go_roundw
    case rel=>exact⟨k+1,by omega,by go_num,dh.o,λj h=>by
     rcases bQ j k with e|e
     ·exact HJ.o j e
     ·have:j=k:=by omega
      subst this;exact HX.o⟩
    case measure=>simp[intOf];omega
  ·have HR:af (rx=none):=HZ.o (λj h=>HJ.o j (by omega));go_wp2_with fail;go_ret2;rw[HR.o];exact⟨rfl,HM.o⟩
theorem Nr(x:tLB)(w:tW)(hE:Env w)(hx:x.length<=1000000):Calls prog 253 #[.string (T x)] w λe w'=>e=.returned (.bool (aZ x).isSome)/\aa ae w w':=by have HR:=C8 x w hE hx;generalize aZ x=rx at *;go_enter func253,ntmps253;go_wp2_with fail;refine HR.mono ?_;rintro e w1 ⟨rfl,m1⟩;go_wp2_with fail;go_ret;exact⟨rfl,m1⟩
theorem Ge(b o:Nat)(cs:tAV)(t:TypeId)(l:tLB)(w:tW)(h:kT w b o cs t l)(hl:l.length<=1000000)(hE:∀w',aa (Only b) w w'->Env w'):Calls prog 175 #[.pointer (some ⟨b,o,none⟩)] w λe w'=>e=.returned (.tuple #[.int .u8 (((aZ (aG l).1).getD 0:Nat):Int),.bool (aZ (aG l).1).isSome])/\aQ w b o cs t (aG l).2 w':=by have HW:=il b o cs t l w h hl;have hle:=kK l;have HR:af (∀w',Env w'->Calls prog 270 #[.string (T (aG l).1)] w' λe w''=>e=.returned (.tuple #[.int .u8 (((aZ (aG l).1).getD 0:Nat):Int),.bool (aZ (aG l).1).isSome])/\aa ae w' w''):=λw' hE'=>C8 _ w' hE' (by omega);generalize aZ (aG l).1=rx at *;generalize aG l=wl at *;obtain⟨w1,w2⟩:=wl;simp only at *;go_enter func175,ntmps175;go_wp2_with fail;refine HW.mono ?_;rintro e wa ⟨rfl,hp⟩;go_wp2_with fail;refine(HR.o _ (hE _ hp.2)).mono ?_;rintro e wb ⟨rfl,m1⟩;go_wp2_with fail;go_ret2;exact⟨rfl,hp.quiet m1⟩
theorem tY(b o:Nat)(cs:tAV)(t:TypeId)(l:tLB)(w:tW)(h:kT w b o cs t l)(hl:l.length<=1000000):Calls prog 142 #[.pointer (some ⟨b,o,none⟩)] w λe w'=>e=.returned (.tuple #[.string (T (aG l).1),.bool (nameB (aG l).1)])/\aQ w b o cs t (aG l).2 w':=by
 have HW:=il b o cs t l w h hl;have hle:=kK l;have HR:af (∀w',Calls prog 139 #[.string (T (aG l).1)] w' λe w''=>e=.returned (.bool (nameB (aG l).1))/\w''=w'):=λw'=>by have:=rP (T (aG l).1) w' (by rw[bG];unfold maxLen;omega);rw[show(T (aG l).1).data.toList=(aG l).1 by simp[T]]at this;exact this
 generalize nameB (aG l).1=rx at *;generalize aG l=wl at *;obtain⟨w1,w2⟩:=wl;simp only at *;go_enter func142,ntmps142;go_wp2_with fail;refine HW.mono ?_;rintro e wa ⟨rfl,hp⟩;go_wp2_with fail;refine(HR.o _).mono ?_;rintro e wb ⟨rfl,rfl⟩;go_wp2_with fail;go_ret2;exact⟨rfl,hp⟩
theorem Ns(c:UInt8)(w:tW):Calls prog 353 #[.int .u8 (c.toNat:Int)] w λe w'=>e=.returned (.int .u64 (rJ c:Nat))/\w'=w:=by
 have hc:=c.toNat_lt;have HD:af (rJ c=if 48<=c.toNat/\c.toNat<=57 then c.toNat-48 else if 97<=c.toNat/\c.toNat<=102 then c.toNat-87 else 255):=rfl;generalize rJ c=dc at *;generalize c.toNat=n at *;by_cases h1:48<=n/\n<=57
 ·obtain⟨ha,hb⟩:=h1;have HV:af ((dc:Int)=(n:Int)-48):=by rw[af,HD.o,iP9 ⟨ha,hb⟩];omega
  have hq:lI (n:Int)=true:=by unfold lI;simp;omega
  have ha':(48:Int)<=n:=by omega
  have hb':(n:Int)<=57:=by omega
  go_enter func353,ntmps353;go_wp2_with (go_at_call 301;refine(lU _ _).mono ?_;rintro e w' ⟨rfl,rfl⟩);go_ret;exact⟨by rw[HV.o];rfl,rfl⟩
 ·have hq:lI (n:Int)=false:=by unfold lI;rw[Bool.and_eq_false_iff];simp;omega
  by_cases h2:97<=n
  ·have h2':(97:Int)<=n:=by omega
   by_cases h3:n<=102
   ·have h3':(n:Int)<=102:=by omega
    have HV:af ((dc:Int)=(n:Int)-97+10):=by rw[af,HD.o,iN9 h1,iP9 ⟨h2,h3⟩];omega
    go_enter func353,ntmps353;go_wp2_with (go_at_call 301;refine(lU _ _).mono ?_;rintro e w' ⟨rfl,rfl⟩);go_ret;exact⟨by rw[HV.o];rfl,rfl⟩
   ·have h3':decide ((n:Int)<=102)=false:=by simp;omega
    have HV:af (dc=255):=by rw[af,HD.o,iN9 h1,iN9 (by omega)]
    go_enter func353,ntmps353;go_wp2_with (go_at_call 301;refine(lU _ _).mono ?_;rintro e w' ⟨rfl,rfl⟩);go_ret;exact⟨by rw[HV.o];rfl,rfl⟩
  ·have h2':decide ((97:Int)<=n)=false:=by simp;omega
   have HV:af (dc=255):=by rw[af,HD.o,iN9 h1,iN9 (by omega)]
   go_enter func353,ntmps353;go_wp2_with (go_at_call 301;refine(lU _ _).mono ?_;rintro e w' ⟨rfl,rfl⟩);go_ret;exact⟨by rw[HV.o];rfl,rfl⟩
def bC.eQ(n:bC):Value:=.agg #[.bool n.minus,.int .u64 ((n.v%18446744073709551616:Nat):Int),.bool (decide (18446744073709551616<=n.v))]
theorem wS(n:bC)(w:tW):Calls prog 259 #[n.eQ,.int .i64 16] w λe w'=>e=.returned (.tuple #[.int .i64 ((n.dV 32768).getD 0),.bool (n.dV 32768).isSome])/\aa ae w w':=by
 obtain⟨v,mi⟩:=n;have HS:af ((bC.mk v mi).dV 32768=if 18446744073709551616<=v then none else if mi then(if v<=32768 then some (-(v:Int))else none)else(if v<32768 then some (v:Int)else none)):=rfl;generalize(bC.mk v mi).dV 32768=sg at *;unfold bC.eQ;dsimp only;by_cases hb:18446744073709551616<=v
 ·have HS2:af (sg=none):=by rw[af,HS.o,iP9 hb]
  have hq:decide (18446744073709551616<=v)=true:=by simpa using hb
  rw[hq];generalize((v%18446744073709551616:Nat):Int)=u;go_enter func259,ntmps259;go_wp2_with fail;go_ret2;rw[HS2.o];exact⟨rfl,aj⟩
 ·have hq:decide (18446744073709551616<=v)=false:=by simpa using hb
  have hm:v%18446744073709551616=v:=an (by omega);rw[hq,hm];have Cr:af (sg=if mi then(if v<=32768 then some (-(v:Int))else none)else(if v<32768 then some (v:Int)else none)):=by rw[af,HS.o,iN9 hb]
  clear HS hq hm;cases mi with
  |true =>
   by_cases h1:v<=32768
   ·have HS2:af (sg=some (-(v:Int))):=by rw[af,Cr.o,iP9 rfl,iP9 h1]
    have h1':(v:Int)<=32768:=by omega
    go_enter func259,ntmps259;go_wp2_with fail;go_ret2;rw[HS2.o];exact⟨rfl,aj⟩
   ·have HS2:af (sg=none):=by rw[af,Cr.o,iP9 rfl,iN9 h1]
    have h1':decide ((v:Int)<=32768)=false:=by simp;omega
    go_enter func259,ntmps259;go_wp2_with fail;go_ret2;rw[HS2.o];exact⟨rfl,aj⟩
  |false =>
   by_cases h1:v<32768
   ·have HS2:af (sg=some (v:Int)):=by rw[af,Cr.o,iN9 (by decide),iP9 h1]
    have h1':(v:Int)<32768:=by omega
    go_enter func259,ntmps259;go_wp2_with fail;go_ret2;rw[HS2.o];exact⟨rfl,aj⟩
   ·have HS2:af (sg=none):=by rw[af,Cr.o,iN9 (by decide),iN9 h1]
    have h1':decide ((v:Int)<32768)=false:=by simp;omega
    go_enter func259,ntmps259;go_wp2_with fail;go_ret2;rw[HS2.o];exact⟨rfl,aj⟩
theorem Es(n:bC)(w:tW):Calls prog 259 #[n.eQ,.int .i64 32] w λe w'=>e=.returned (.tuple #[.int .i64 ((n.dV 2147483648).getD 0),.bool (n.dV 2147483648).isSome])/\aa ae w w':=by
 obtain⟨v,mi⟩:=n;have HS:af ((bC.mk v mi).dV 2147483648=if 18446744073709551616<=v then none else if mi then(if v<=2147483648 then some (-(v:Int))else none)else(if v<2147483648 then some (v:Int)else none)):=rfl;generalize(bC.mk v mi).dV 2147483648=sg at *;unfold bC.eQ;dsimp only;by_cases hb:18446744073709551616<=v
 ·have HS2:af (sg=none):=by rw[af,HS.o,iP9 hb]
  have hq:decide (18446744073709551616<=v)=true:=by simpa using hb
  rw[hq];generalize((v%18446744073709551616:Nat):Int)=u;go_enter func259,ntmps259;go_wp2_with fail;go_ret2;rw[HS2.o];exact⟨rfl,aj⟩
 ·have hq:decide (18446744073709551616<=v)=false:=by simpa using hb
  have hm:v%18446744073709551616=v:=an (by omega);rw[hq,hm];have Cr:af (sg=if mi then(if v<=2147483648 then some (-(v:Int))else none)else(if v<2147483648 then some (v:Int)else none)):=by rw[af,HS.o,iN9 hb]
  clear HS hq hm;cases mi with
  |true =>
   by_cases h1:v<=2147483648
   ·have HS2:af (sg=some (-(v:Int))):=by rw[af,Cr.o,iP9 rfl,iP9 h1]
    have h1':(v:Int)<=2147483648:=by omega
    go_enter func259,ntmps259;go_wp2_with fail;go_ret2;rw[HS2.o];exact⟨rfl,aj⟩
   ·have HS2:af (sg=none):=by rw[af,Cr.o,iP9 rfl,iN9 h1]
    have h1':decide ((v:Int)<=2147483648)=false:=by simp;omega
    go_enter func259,ntmps259;go_wp2_with fail;go_ret2;rw[HS2.o];exact⟨rfl,aj⟩
  |false =>
   by_cases h1:v<2147483648
   ·have HS2:af (sg=some (v:Int)):=by rw[af,Cr.o,iN9 (by decide),iP9 h1]
    have h1':(v:Int)<2147483648:=by omega
    go_enter func259,ntmps259;go_wp2_with fail;go_ret2;rw[HS2.o];exact⟨rfl,aj⟩
   ·have HS2:af (sg=none):=by rw[af,Cr.o,iN9 (by decide),iN9 h1]
    have h1':decide ((v:Int)<2147483648)=false:=by simp;omega
    go_enter func259,ntmps259;go_wp2_with fail;go_ret2;rw[HS2.o];exact⟨rfl,aj⟩
theorem RO(n:bC)(w:tW):Calls prog 328 #[n.eQ] w λe w'=>e=.returned (.tuple #[.int .u64 ((n.dW.getD 0:Nat):Int),.bool n.dW.isSome])/\aa ae w w':=by
 obtain⟨v,mi⟩:=n;have HS:af ((bC.mk v mi).dW=if 18446744073709551616<=v then none else if mi then(if v<=9223372036854775808 then some ((18446744073709551616-v)%18446744073709551616)else none)else some v):=rfl;generalize(bC.mk v mi).dW=sg at *;unfold bC.eQ;dsimp only;by_cases hb:18446744073709551616<=v
 ·have HS2:af (sg=none):=by rw[af,HS.o,iP9 hb]
  have hq:decide (18446744073709551616<=v)=true:=by simpa using hb
  rw[hq];generalize((v%18446744073709551616:Nat):Int)=u;go_enter func328,ntmps328;go_wp2_with fail;go_ret2;rw[HS2.o];exact⟨rfl,aj⟩
 ·have hq:decide (18446744073709551616<=v)=false:=by simpa using hb
  have hm:v%18446744073709551616=v:=an (by omega);rw[hq,hm];have Cr:af (sg=if mi then(if v<=9223372036854775808 then some ((18446744073709551616-v)%18446744073709551616)else none)else some v):=by rw[af,HS.o,iN9 hb]
  clear HS hq hm;cases mi with
  |true =>
   by_cases h1:v<=9223372036854775808
   ·have HS2:af (sg=some ((18446744073709551616-v)%18446744073709551616)):=by rw[af,Cr.o,iP9 rfl,iP9 h1]
    have h1':(v:Int)<=9223372036854775808:=by omega
    have HW:af (IntKind.u64.wrap (-(v:Int))=(((18446744073709551616-v)%18446744073709551616:Nat):Int)):=by rw[af,wrap64];omega
    go_enter func328,ntmps328;go_wp2_with fail;go_ret2;rw[HS2.o];refine⟨?_,aj⟩;show _=Ending.returned (.tuple #[.int .u64 (((18446744073709551616-v)%18446744073709551616:Nat):Int),.bool true])
    rw[<-HW.o];rfl
   ·have HS2:af (sg=none):=by rw[af,Cr.o,iP9 rfl,iN9 h1]
    have h1':decide ((v:Int)<=9223372036854775808)=false:=by simp;omega
    go_enter func328,ntmps328;go_wp2_with fail;go_ret2;rw[HS2.o];exact⟨rfl,aj⟩
  |false =>
   have HS2:af (sg=some v):=by rw[af,Cr.o,iN9 (by decide)]
   go_enter func328,ntmps328;go_wp2_with fail;go_ret2;rw[HS2.o];exact⟨rfl,aj⟩
theorem zg(n:bC)(w:tW):Calls prog 285 #[n.eQ] w λe w'=>e=.returned (bC.mk n.v (!n.minus)).eQ/\aa ae w w':=by
 obtain⟨v,mi⟩:=n;unfold bC.eQ;dsimp only;generalize((v%18446744073709551616:Nat):Int)=u;generalize decide (18446744073709551616<=v)=bg
 have hb1:ak ((w.alloc (.cells #[.bool (!mi),.int .u64 u,.bool bg] 157)).alloc (.cells #[.bool (!mi),.int .u64 u,.bool bg] 157)) (w.heap.size+1) #[.bool (!mi),.int .u64 u,.bool bg] 157:=by
  have:=ak.new (w.alloc (.cells #[.bool (!mi),.int .u64 u,.bool bg] 157)) #[.bool (!mi),.int .u64 u,.bool bg] 157
  simpa using this
 have HB:=ai hb1;clear hb1;go_enter func285,ntmps285;go_wp2_with fail;exact bodyPost_ret (results_cell_row results285 _ _ (w.heap.size+1) 157 _ (0,0) _ rfl HB.o underlying157 rfl (by kernel_rfl)) rfl ⟨rfl,aj.alloc _⟩
theorem Wp(c:UInt8):rJ c<=255:=by
 unfold rJ;have:=c.toNat_lt;split
 ·omega
 ·split<;>omega
theorem Nt(base:Nat)(m:tLB)(k v:Nat)(hk:k<m.length):digsP base (m.drop k) v=if base<=rJ m[k]then none else digsP base (m.drop (k+1)) (v*base+rJ m[k]):=by rw[List.drop_eq_getElem_cons hk,digsP]
theorem Nu(x:tLB)(w:tW)(hx:x.length<=1000000):Calls prog 325 #[.string (T x)] w λe w'=>e=.returned (.tuple #[(bC.mk ((cK x).getD 0) false).eQ,.bool (cK x).isSome])/\aa ae w w':=by
 have iA:af (ak (w.alloc (.cells #[.bool false,.int .u64 0,.bool false] 157)) w.heap.size #[.bool false,.int .u64 0,.bool false] 157):=ak.new w _ _;have eX:af (aa ae w (w.alloc (.cells #[.bool false,.int .u64 0,.bool false] 157))):=aj;have HZ0:af ((bC.mk 0 false).eQ=.agg #[.bool false,.int .u64 0,.bool false]):=rfl;have JF:af (cK x=if lQ x=[]\/20<x.length then none else digsP (rM x) (lQ x) 0):=rfl;have VN:af (rM x=if Cy x then 16 else 10):=rfl;have VO:af (lQ x=if Cy x then x.drop 2 else x):=rfl
 have HHX:af (Cy x=true->2<=x.length):=λh=>by
  unfold Cy at h
  match x,h with
  |[],h=>simp[List.isPrefixOf]at h
  |[a],h=>simp[List.isPrefixOf]at h
  |a::b::r,_=>simp
 have FP:af (∀w',Calls prog 271 #[.string (T x),.string (T [48,120])] w' λe w''=>e=.returned (.bool (Cy x))/\w''=w'):=λw'=>Gd x [48,120] w';have hs:(T x).size=x.length:=bG x;generalize cK x=nx at *;generalize rM x=base at *;generalize lQ x=m at *;generalize Cy x=hb at *;go_enter func325,ntmps325;go_wp2_with fail;refine(FP.o _).mono ?_;rintro e w1 ⟨rfl,rfl⟩;clear FP;generalize w.alloc (.cells #[.bool false,.int .u64 0,.bool false] 157)=w1 at *;have HRl:af (w.heap.size<=w.heap.size):=Nat.le_refl _;generalize hRr:w.heap.size=R at *;go_upto_if 11 with fail;go_cut [4,5] (λbv dv wx=>bv=.int .u64 (base:Nat)/\dv=.string (T m)/\aa ae w1 wx)
 case first =>
  cases hb with
  |true =>
   have h2:=HHX.o rfl;have e2:(T x).extract 2 x.length=T (x.drop 2):=by have:=lT x 2;rw[hs]at this;exact this
   have HB2:af (base=16):=VN.o;have HD2:af (m=x.drop 2):=VO.o;have h2':(2:Int)<=x.length:=by omega
   go_upto_region 3 with fail;go_quiet (fail);have hmq:aa ae w1 (w1.drewN nq):=ax.drewN nq;go_wp2_with fail;go_meet;exact⟨by rw[HB2.o];rfl,by rw[HD2.o],hmq⟩
  |false =>have HB2:af (base=10):=VN.o;have HD2:af (m=x):=VO.o;go_wp2_with fail;go_meet;exact⟨by rw[HB2.o];rfl,by rw[HD2.o],ax⟩
 case rest =>
 obtain⟨rfl,rfl,hmc⟩:=hcut;have Cs:=ai (iA.o.ag hmc id);have dh:=ai (eX.o.trans hmc)
 have hbs:base=10\/base=16:=by
  rw[VN.o];cases hb
  ·exact .inl rfl
  ·exact .inr rfl
 have JG:m.length<=x.length:=by
  rw[VO.o];split
  ·simp
  ·exact Nat.le_refl _
 clear iA eX hmc VN VO HHX;have r0:wc.cell? ⟨R,0,none⟩=some (.bool false):=Cs.o.cell 0;have r1:wc.cell? ⟨R,1,none⟩=some (.int .u64 0):=Cs.o.cell 1;have r2:wc.cell? ⟨R,2,none⟩=some (.bool false):=Cs.o.cell 2;have rf:=Cs.o.frozen;have hms:(T m).size=m.length:=bG m;by_cases h0:m=[]\/20<x.length
 ·have Cz:af (nx=none):=by rw[af,JF.o,iP9 h0]
  have Gf:af (ak (((wc.setCell ⟨R,0,none⟩ (.bool false)).setCell ⟨R,1,none⟩ (.int .u64 0)).setCell ⟨R,2,none⟩ (.bool false)) R #[.bool false,.int .u64 0,.bool false] 157):=((Cs.o.set 0 _).set 1 _).set 2 _;have Et:af (aa ae w (((wc.setCell ⟨R,0,none⟩ (.bool false)).setCell ⟨R,1,none⟩ (.int .u64 0)).setCell ⟨R,2,none⟩ (.bool false))):=by refine((dh.o.set (a:=⟨R,0,none⟩) (.inr ?_) _).set (a:=⟨R,1,none⟩) (.inr ?_) _).set (a:=⟨R,2,none⟩) (.inr ?_) _<;>exact b5 hRr
  cases m with
  |nil =>have he:=jX;go_wp2_with fail;refine bodyPost_ret (aw results325 _ _ R 157 _ (0,0) _ _ rfl rfl Gf.o underlying157 rfl (by kernel_rfl)) rfl ⟨?_,Et.o⟩;rw[Cz.o];rfl
  |cons c m =>
   have he:=gQ c m;have h20:20<x.length:=by rcases h0 with h|h;cases h;exact h
   have adq:(20:Int)<x.length:=by omega
   clear h0;go_wp2_with fail;refine bodyPost_ret (aw results325 _ _ R 157 _ (0,0) _ _ rfl rfl Gf.o underlying157 rfl (by kernel_rfl)) rfl ⟨?_,Et.o⟩;rw[Cz.o];rfl
 ·have Cz:af (nx=digsP base m 0):=by rw[af,JF.o,iN9 h0]
  have he:(T m).toList.isEmpty=false:=by
   cases m with
   |nil=>exact absurd (.inl rfl) h0
   |cons c m=>exact gQ c m
  have h20:x.length<=20:=by
   rcases bQ 20 x.length with h|h
   ·exact absurd (.inr h) h0
   ·exact h
  have adq:decide ((20:Int)<x.length)=false:=by simp;omega
  clear JF h0;have HB1:af (ak (wc.alloc (.cells #[.bool false,.int .u64 0,.bool false] 157)) wc.heap.size (bC.uT ⟨0,false⟩).toArray 157):=ak.new wc _ _;have kE:af (ak (wc.alloc (.cells #[.bool false,.int .u64 0,.bool false] 157)) R #[.bool false,.int .u64 0,.bool false] 157):=Cs.o.alloc _;have dD:af (aa ae w (wc.alloc (.cells #[.bool false,.int .u64 0,.bool false] 157))):=dh.o.alloc _;have hRB:R<wc.heap.size:=Cs.o.lt;have uF:=ai dh.o.size;go_upto_region 7 with fail;clear r0 r1 r2 rf Cs dh;generalize wc.alloc (.cells #[.bool false,.int .u64 0,.bool false] 157)=w2 at *;generalize hBb:wc.heap.size=B at *;have Jn:af (B≠R):=by rw[af];omega
  go_wp2_with fail;go_loopg [24] m.length (λq kv wx=>∃k v:Nat,kv=.int .i64 k/\ak wx B (bC.uT ⟨v,false⟩).toArray 157/\ak wx R #[.bool false,.int .u64 0,.bool false] 157/\aa ae w wx/\nx=digsP base (m.drop k) v/\k<=m.length/\q=m.length-k)
  case atStart=>exact⟨0,0,rfl,HB1.o,kE.o,dD.o,Cz.o,ar _,rfl⟩
  case round =>
   obtain⟨k,v,rfl,hb',hr,hm,hal,hks,rfl⟩:=hrel;have zP:=ai hb';have tZ:=ai hr;have uV:=ai hm;have HAk:=ai hal;clear hb' hr hm hal HB1 kE dD Cz;by_cases hkl:k<m.length
   ·have HA2:af (nx=if base<=rJ m[k]then none else digsP base (m.drop (k+1)) (v*base+rJ m[k])):=by rw[af,HAk.o,Nt base m k v hkl]
    have hg:(T m)[k]'(by rw[hms];exact hkl)=m[k]:=rfl;have HV:af (∀w',Calls prog 353 #[.int .u8 ((m[k]).toNat:Int)] w' λe w''=>e=.returned (.int .u64 (rJ m[k]:Nat))/\w''=w'):=λw'=>Ns m[k] w';have hdl:=Wp m[k];clear HAk;generalize rJ m[k]=d at *;go_wp2_with fail;refine(HV.o _).mono ?_;rintro e w3 ⟨rfl,rfl⟩;clear HV;by_cases hd:base<=d
    ·have Jo:af (nx=none):=by rw[af,HA2.o,iP9 hd]
     have hd':(base:Int)<=d:=by omega
     have r0:w3.cell? ⟨R,0,none⟩=some (.bool false):=tZ.o.cell 0;have r1:w3.cell? ⟨R,1,none⟩=some (.int .u64 0):=tZ.o.cell 1;have r2:w3.cell? ⟨R,2,none⟩=some (.bool false):=tZ.o.cell 2;have rf:=tZ.o.frozen;have Gf:af (ak (((w3.setCell ⟨R,0,none⟩ (.bool false)).setCell ⟨R,1,none⟩ (.int .u64 0)).setCell ⟨R,2,none⟩ (.bool false)) R #[.bool false,.int .u64 0,.bool false] 157):=((tZ.o.set 0 _).set 1 _).set 2 _;have Et:af (aa ae w (((w3.setCell ⟨R,0,none⟩ (.bool false)).setCell ⟨R,1,none⟩ (.int .u64 0)).setCell ⟨R,2,none⟩ (.bool false))):=by refine((uV.o.set (a:=⟨R,0,none⟩) (.inr ?_) _).set (a:=⟨R,1,none⟩) (.inr ?_) _).set (a:=⟨R,2,none⟩) (.inr ?_) _<;>exact b5 hRr
     clear HA2;go_wp2_with fail;refine bodyPost_ret (aw results325 _ _ R 157 _ (0,0) _ _ rfl rfl Gf.o underlying157 rfl (by kernel_rfl)) rfl ⟨?_,Et.o⟩;rw[Jo.o];rfl
    ·have kG:af (nx=digsP base (m.drop (k+1)) (v*base+d)):=by rw[af,HA2.o,iN9 hd]
     have hd':decide ((base:Int)<=d)=false:=by simp;omega
     have adr:d<=15:=by omega
     clear HA2;have Q8:=RM v base d hbs adr;have c1:w3.cell? ⟨B,1,none⟩=some (.int .u64 ((v%18446744073709551616:Nat):Int)):=zP.o.cell 1;have c2:w3.cell? ⟨B,2,none⟩=some (.bool (decide (18446744073709551616<=v))):=zP.o.cell 2;have hu:v%18446744073709551616<18446744073709551616:=Nat.mod_lt _ (by decide);have VP:af _:=Q8;clear Q8;generalize hU:v%18446744073709551616=u at *;have Wq:af (ak w3 B #[.bool false,.int .u64 (u:Int),.bool (decide (18446744073709551616<=v))] 157):=by have:=zP.o;unfold bC.uT at this;dsimp only at this;rw[hU]at this;exact this
     clear zP;rcases hbs with rfl|rfl
     ·have HW:af (IntKind.u64.wrap (IntKind.u64.wrap ((u:Int)*10)+(d:Int))=(((v*10+d)%18446744073709551616:Nat):Int)):=by rw[af,VP.o.2,wrap64,wrap64];omega
      have Jp:=ai VP.o.1;clear VP;have HJ:af (m.length-(k+1)<m.length-k):=by rw[af];omega
      go_upto_region 13 with fail;generalize hq:decide ((18446744073709551615-(d:Int))/10<(u:Int))=qq at *
      have HQ:af (decide ((18446744073709551615-d)/10<u)=qq):=by
       rw[af,<-hq];by_cases e:(18446744073709551615-d)/10<u
       ·rw[decide_eq_true e,decide_eq_true (by omega)]
       ·rw[decide_eq_false e,decide_eq_false (by omega)]
      rw[HQ.o]at Jp;clear HQ;generalize hbg:decide (18446744073709551616<=v)=bg at *;have qY:=ai Wq.o.drew;have Ws:=ai tZ.o.drew;have eZ:=ai uV.o.drew;refine bJ 11 (by kernel_rfl) (by kernel_rfl) ?_;intro W hW;rw[<-hW]at qY Ws eZ;clear hW;clear c1 c2 Wq tZ uV;have c1:W.cell? ⟨B,1,none⟩=some (.int .u64 (u:Int)):=qY.o.cell 1;have c2:W.cell? ⟨B,2,none⟩=some (.bool bg):=qY.o.cell 2;have cf:=qY.o.frozen;have hu':(u:Int)<18446744073709551616:=by omega
      have hdd:(d:Int)<=15:=by omega
      have HB3:af (ak ((W.setCell ⟨B,2,none⟩ (.bool (bg||qq))).setCell ⟨B,1,none⟩ (.int .u64 (IntKind.u64.wrap (IntKind.u64.wrap ((u:Int)*10)+(d:Int))))) B (bC.uT ⟨v*10+d,false⟩).toArray 157):=by have:=(qY.o.set 2 (.bool (bg||qq))).set 1 (.int .u64 (IntKind.u64.wrap (IntKind.u64.wrap ((u:Int)*10)+(d:Int))));rw[HW.o]at this ⊢;unfold bC.uT;dsimp only;rw[Jp.o];exact this
      have xX:af (ak ((W.setCell ⟨B,2,none⟩ (.bool (bg||qq))).setCell ⟨B,1,none⟩ (.int .u64 (IntKind.u64.wrap (IntKind.u64.wrap ((u:Int)*10)+(d:Int))))) R #[.bool false,.int .u64 0,.bool false] 157):=(Ws.o.setOther (a:=⟨B,2,none⟩) Jn.o _).setOther (a:=⟨B,1,none⟩) Jn.o _;have dw:af (aa ae w ((W.setCell ⟨B,2,none⟩ (.bool (bg||qq))).setCell ⟨B,1,none⟩ (.int .u64 (IntKind.u64.wrap (IntKind.u64.wrap ((u:Int)*10)+(d:Int)))))):=(eZ.o.set (a:=⟨B,2,none⟩) (.inr uF.o) _).set (a:=⟨B,1,none⟩) (.inr uF.o) _;clear qY Ws eZ Jp HW hbg;simp only[bt,List.take_zero,bO,List.drop_zero];cases bg with
      |true =>
       repeat(go_big_quiet_step (fail))
       refine wpQuiet_nil ?_;go_wp2_with fail;go_roundg (m.length-(k+1))
       case measure=>exact HJ.o
       case rel=>exact⟨k+1,v*10+d,by go_num,HB3.o,xX.o,dw.o,kG.o,by omega,rfl⟩
      |false =>
       repeat(go_big_quiet_step (fail))
       refine wpQuiet_nil ?_;go_wp2_with fail;go_roundg (m.length-(k+1))
       case measure=>exact HJ.o
       case rel=>exact⟨k+1,v*10+d,by go_num,HB3.o,xX.o,dw.o,kG.o,by omega,rfl⟩
     ·have HW:af (IntKind.u64.wrap (IntKind.u64.wrap ((u:Int)*16)+(d:Int))=(((v*16+d)%18446744073709551616:Nat):Int)):=by rw[af,VP.o.2,wrap64,wrap64];omega
      have Jp:=ai VP.o.1;clear VP;have HJ:af (m.length-(k+1)<m.length-k):=by rw[af];omega
      go_upto_region 13 with fail;generalize hq:decide ((18446744073709551615-(d:Int))/16<(u:Int))=qq at *
      have HQ:af (decide ((18446744073709551615-d)/16<u)=qq):=by
       rw[af,<-hq];by_cases e:(18446744073709551615-d)/16<u
       ·rw[decide_eq_true e,decide_eq_true (by omega)]
       ·rw[decide_eq_false e,decide_eq_false (by omega)]
      rw[HQ.o]at Jp;clear HQ;generalize hbg:decide (18446744073709551616<=v)=bg at *;have qY:=ai Wq.o.drew;have Ws:=ai tZ.o.drew;have eZ:=ai uV.o.drew;refine bJ 11 (by kernel_rfl) (by kernel_rfl) ?_;intro W hW;rw[<-hW]at qY Ws eZ;clear hW;clear c1 c2 Wq tZ uV;have c1:W.cell? ⟨B,1,none⟩=some (.int .u64 (u:Int)):=qY.o.cell 1;have c2:W.cell? ⟨B,2,none⟩=some (.bool bg):=qY.o.cell 2;have cf:=qY.o.frozen;have hu':(u:Int)<18446744073709551616:=by omega
      have hdd:(d:Int)<=15:=by omega
      have HB3:af (ak ((W.setCell ⟨B,2,none⟩ (.bool (bg||qq))).setCell ⟨B,1,none⟩ (.int .u64 (IntKind.u64.wrap (IntKind.u64.wrap ((u:Int)*16)+(d:Int))))) B (bC.uT ⟨v*16+d,false⟩).toArray 157):=by have:=(qY.o.set 2 (.bool (bg||qq))).set 1 (.int .u64 (IntKind.u64.wrap (IntKind.u64.wrap ((u:Int)*16)+(d:Int))));rw[HW.o]at this ⊢;unfold bC.uT;dsimp only;rw[Jp.o];exact this
      have xX:af (ak ((W.setCell ⟨B,2,none⟩ (.bool (bg||qq))).setCell ⟨B,1,none⟩ (.int .u64 (IntKind.u64.wrap (IntKind.u64.wrap ((u:Int)*16)+(d:Int))))) R #[.bool false,.int .u64 0,.bool false] 157):=(Ws.o.setOther (a:=⟨B,2,none⟩) Jn.o _).setOther (a:=⟨B,1,none⟩) Jn.o _;have dw:af (aa ae w ((W.setCell ⟨B,2,none⟩ (.bool (bg||qq))).setCell ⟨B,1,none⟩ (.int .u64 (IntKind.u64.wrap (IntKind.u64.wrap ((u:Int)*16)+(d:Int)))))):=(eZ.o.set (a:=⟨B,2,none⟩) (.inr uF.o) _).set (a:=⟨B,1,none⟩) (.inr uF.o) _;clear qY Ws eZ Jp HW hbg;simp only[bt,List.take_zero,bO,List.drop_zero];cases bg with
      |true =>
       repeat(go_big_quiet_step (fail))
       refine wpQuiet_nil ?_;go_wp2_with fail;go_roundg (m.length-(k+1))
       case measure=>exact HJ.o
       case rel=>exact⟨k+1,v*16+d,by go_num,HB3.o,xX.o,dw.o,kG.o,by omega,rfl⟩
      |false =>
       repeat(go_big_quiet_step (fail))
       refine wpQuiet_nil ?_;go_wp2_with fail;go_roundg (m.length-(k+1))
       case measure=>exact HJ.o
       case rel=>exact⟨k+1,v*16+d,by go_num,HB3.o,xX.o,dw.o,kG.o,by omega,rfl⟩
   ·obtain rfl:k=m.length:=by omega
    have kG:af (nx=some v):=by rw[af,HAk.o,al];rfl
    have c0:wr.cell? ⟨B,0,none⟩=some (.bool false):=zP.o.cell 0;have c1:wr.cell? ⟨B,1,none⟩=some (.int .u64 ((v%18446744073709551616:Nat):Int)):=zP.o.cell 1;have c2:wr.cell? ⟨B,2,none⟩=some (.bool (decide (18446744073709551616<=v))):=zP.o.cell 2;have r0:wr.cell? ⟨R,0,none⟩=some (.bool false):=tZ.o.cell 0;have r1:wr.cell? ⟨R,1,none⟩=some (.int .u64 0):=tZ.o.cell 1;have r2:wr.cell? ⟨R,2,none⟩=some (.bool false):=tZ.o.cell 2;have rf:=tZ.o.frozen;have Gf:af (ak (((wr.setCell ⟨R,0,none⟩ (.bool false)).setCell ⟨R,1,none⟩ (.int .u64 ((v%18446744073709551616:Nat):Int))).setCell ⟨R,2,none⟩ (.bool (decide (18446744073709551616<=v)))) R #[.bool false,.int .u64 ((v%18446744073709551616:Nat):Int),.bool (decide (18446744073709551616<=v))] 157):=((tZ.o.set 0 _).set 1 _).set 2 _;have Et:af (aa ae w (((wr.setCell ⟨R,0,none⟩ (.bool false)).setCell ⟨R,1,none⟩ (.int .u64 ((v%18446744073709551616:Nat):Int))).setCell ⟨R,2,none⟩ (.bool (decide (18446744073709551616<=v))))):=by refine((uV.o.set (a:=⟨R,0,none⟩) (.inr ?_) _).set (a:=⟨R,1,none⟩) (.inr ?_) _).set (a:=⟨R,2,none⟩) (.inr ?_) _<;>exact b5 hRr
    have HEQ:af ((bC.mk v false).eQ=.agg #[.bool false,.int .u64 ((v%18446744073709551616:Nat):Int),.bool (decide (18446744073709551616<=v))]):=rfl;generalize((v%18446744073709551616:Nat):Int)=u at *;generalize decide (18446744073709551616<=v)=bg at *;go_wp2_with fail;refine bodyPost_ret (aw results325 _ _ R 157 _ (0,0) _ _ rfl rfl Gf.o underlying157 rfl (by kernel_rfl)) rfl ⟨?_,Et.o⟩;rw[kG.o];show _=Ending.returned (.tuple #[(bC.mk v false).eQ,.bool true])
    rw[HEQ.o];rfl
