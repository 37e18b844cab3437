import Derived.Test.YtnhcaifopaeohaaGreatDoorM40
namespace Go.Proofs.YtnhcaifopaeohaaGreatDoor
open Go.RowKit
set_option linter.all false
theorem b8_cons (x:Int) (l:List Int):b8 (x::l)=UInt8.ofNat x.toNat::b8 l:=rfl
theorem b8_nil:b8 []=[]:=rfl
theorem of_nat (b:UInt8):UInt8.ofNat ((b.toNat:Int)).toNat=b:=by simp
theorem of_byte {b:UInt8} {x:Int} (h:x=b.toNat):UInt8.ofNat x.toNat=b:=by subst h;exact of_nat b
theorem want_ok {c:Bool} {r:PR} (h:(wantP c r).bad=false):r.bad=false/\c=true:=by
 unfold wantP at h
 simp only [Bool.or_eq_false_iff,Bool.not_eq_false'] at h
 exact h
theorem want_rest (c:Bool) (r:PR):(wantP c r).rest=r.rest:=rfl
theorem one_ok {r:PR} (h:(oneP r).2.bad=false):r.bad=false/\r.rest=b8 [((oneP r).1:Int)]++(oneP r).2.rest/\(oneP r).1<256:=by
 unfold oneP at h ⊢
 obtain ⟨l,bd⟩:=r
 cases l with
 | nil=>cases h
 | cons b l =>
  refine ⟨h,?_,?_⟩
  ·simp only [b8_cons,b8_nil,of_nat];rfl
  ·exact UInt8.toNat_lt b
theorem take_ok {n:Nat} {r:PR} (h:(takeP n r).2.bad=false):r.bad=false/\r.rest=(takeP n r).1++(takeP n r).2.rest/\(takeP n r).1.length=n:=by
 unfold takeP at h ⊢
 by_cases hl:r.rest.length<n
 ·rw [if_pos hl] at h;cases h
 ·rw [if_neg hl] at h ⊢
  exact ⟨h,(List.take_append_drop n r.rest).symm,by rw [List.length_take];omega⟩
theorem two_ok {r:PR} (h:(twoP r).2.bad=false):r.bad=false/\r.rest=b8 (twoL ((twoP r).1:Nat))++(twoP r).2.rest/\(twoP r).1<65536:=by
 unfold twoP at h ⊢
 obtain ⟨h1,e1,l1⟩:=one_ok h;obtain ⟨h2,e2,l2⟩:=one_ok h1
 refine ⟨h2,?_,by simp only;omega⟩
 rw [e2,e1]
 have hA:(((oneP r).1+256*(oneP (oneP r).2).1:Nat):Int) % 256=((oneP r).1:Nat):=by omega
 have hB:(((oneP r).1+256*(oneP (oneP r).2).1:Nat):Int) / 256 % 256=((oneP (oneP r).2).1:Nat):=by omega
 unfold twoL;rw [hA,hB]
 rfl
theorem name_ok {r:PR} (h:(nameP r).2.bad=false):r.bad=false/\r.rest=namedU (T (nameP r).1)++(nameP r).2.rest/\nameB (nameP r).1=true:=by
 unfold nameP at h ⊢
 obtain ⟨h1,hn⟩:=want_ok h;obtain ⟨h2,e2,l2⟩:=take_ok h1;obtain ⟨h3,e3,l3⟩:=one_ok h2
 refine ⟨h3,?_,hn⟩
 rw [e3,e2];unfold namedU
 have hs:((T (takeP (oneP r).1 (oneP r).2).1).size:Int) % 256=((oneP r).1:Nat):=by
  have:(T (takeP (oneP r).1 (oneP r).2).1).size=(oneP r).1:=by show ((takeP (oneP r).1 (oneP r).2).1).length=_;exact l2
  rw [this];omega
 rw [hs,BL_TB,List.append_assoc];rfl
theorem size_ok' {most:Nat} {r:PR} (h:(sizeP most r).2.bad=false):r.bad=false/\r.rest=b8 [((sizeP most r).1:Int)]++(sizeP most r).2.rest/\1<=(sizeP most r).1/\(sizeP most r).1<=most:=by
 unfold sizeP at h ⊢
 obtain ⟨h1,hc⟩:=want_ok h;obtain ⟨h2,e2,_⟩:=one_ok h1
 simp only [Bool.and_eq_true,decide_eq_true_eq] at hc
 exact ⟨h2,e2,hc⟩
theorem map_ok' {r:PR} (h:(mapP r).2.bad=false):r.bad=false/\r.rest=pmapU (mapP r).1++(mapP r).2.rest/\(mapP r).1.Told:=by
 unfold mapP at h ⊢
 simp only at h ⊢
 obtain ⟨h1,e1,c1⟩:=size_ok' h;obtain ⟨h2,e2,c2⟩:=size_ok' h1;obtain ⟨h3,e3,c3⟩:=size_ok' h2;obtain ⟨h4,e4,c4⟩:=name_ok h3
 refine ⟨h4,?_,⟨c4,c3,c2,c1⟩⟩
 rw [e4,e3,e2,e1];unfold pmapU
 simp only [b8_cons,b8_nil,List.append_assoc,List.cons_append,List.nil_append]
def riseL:List UInt8->List (List UInt8)->Prop
 | _,[]=>True
 | a,b::l=>ltL a b=true/\riseL b l
theorem maps_ok:∀ (k:Nat) (r:PR) (last:List UInt8) (acc:List PMap),(mapsP k r last acc).2.bad=false->r.bad=false/\∃ ms,(mapsP k r last acc).1=acc++ms/\ms.length=k/\r.rest=ms.flatMap pmapU++(mapsP k r last acc).2.rest/\(∀ m∈ms,m.Told)/\riseL last (ms.map (·.name))
 | 0,r,last,acc,h=>⟨h,[],by simp [mapsP],rfl,by simp [mapsP],(fun m hm=>by cases hm),trivial⟩
 | k+1,r,last,acc,h=>by
  rw [mapsP] at h ⊢;obtain ⟨h1,ms,e1,e2,e3,e4,e5⟩:=maps_ok k _ _ _ h;obtain ⟨h2,hc⟩:=want_ok h1;obtain ⟨h3,e6,hT⟩:=map_ok' h2
  refine ⟨h3,(mapP r).1::ms,by rw [e1];simp,by simp [e2],?_,fun m hm=>?_,⟨hc,e5⟩⟩
  ·rw [want_rest] at e3;rw [e6,e3,List.flatMap_cons,List.append_assoc]
  ·rcases List.mem_cons.1 hm with rfl | hm
   ·exact hT
   ·exact e4 m hm
def hheadU (h:PHead):List UInt8:=namedU (T h.name)++b8 (twoL (h.slots:Nat))
theorem head_ok {r:PR} (h:(headP r).2.bad=false):r.bad=false/\r.rest=hheadU (headP r).1++(headP r).2.rest/\nameB (headP r).1.name=true:=by
 unfold headP at h ⊢
 simp only at h ⊢
 obtain ⟨h1,e1,_⟩:=two_ok h;obtain ⟨h2,e2,c2⟩:=name_ok h1
 refine ⟨h2,?_,c2⟩
 rw [e2,e1];unfold hheadU;rw [List.append_assoc]
theorem heads_ok:∀ (k:Nat) (r:PR) (last:List UInt8) (all:Nat) (acc:List PHead),(headsP k r last all acc).2.2.bad=false->r.bad=false/\∃ hs,(headsP k r last all acc).1=acc++hs/\hs.length=k/\r.rest=hs.flatMap hheadU++(headsP k r last all acc).2.2.rest/\(∀ x∈hs,nameB x.name=true)/\riseL last (hs.map (·.name))/\(headsP k r last all acc).2.1=all+(hs.map (·.slots)).sum
 | 0,r,last,all,acc,h=>⟨h,[],by simp [headsP],rfl,by simp [headsP],(fun m hm=>by cases hm),trivial,by simp [headsP]⟩
 | k+1,r,last,all,acc,h=>by
  rw [headsP] at h ⊢;obtain ⟨h1,hs,e1,e2,e3,e4,e5,e7⟩:=heads_ok k _ _ _ _ h;obtain ⟨h2,hc⟩:=want_ok h1;obtain ⟨h3,e6,hT⟩:=head_ok h2
  refine ⟨h3,(headP r).1::hs,by rw [e1];simp,by simp [e2],?_,fun m hm=>?_,⟨hc,e5⟩,by rw [e7];simp [Nat.add_assoc]⟩
  ·rw [want_rest] at e3;rw [e6,e3,List.flatMap_cons,List.append_assoc]
  ·rcases List.mem_cons.1 hm with rfl | hm
   ·exact hT
   ·exact e4 m hm
theorem four_back (a b c d:Nat) (ha:a<256) (hb:b<256) (hc:c<256) (hd:d<256):fourL (sgn32 (a+256*b+65536*c+16777216*d))=[(a:Int),(b:Int),(c:Int),(d:Int)]:=by
 unfold fourL sgn32
 split
 ·have h1:(((a+256*b+65536*c+16777216*d:Nat)):Int) % 256=a:=by omega
  have h2:(((a+256*b+65536*c+16777216*d:Nat)):Int) / 256 % 256=b:=by omega
  have h3:(((a+256*b+65536*c+16777216*d:Nat)):Int) / 65536 % 256=c:=by omega
  have h4:(((a+256*b+65536*c+16777216*d:Nat)):Int) / 16777216 % 256=d:=by omega
  rw [h1,h2,h3,h4]
 ·have h1:((((a+256*b+65536*c+16777216*d:Nat)):Int) - 4294967296) % 256=a:=by omega
  have h2:((((a+256*b+65536*c+16777216*d:Nat)):Int) - 4294967296) / 256 % 256=b:=by omega
  have h3:((((a+256*b+65536*c+16777216*d:Nat)):Int) - 4294967296) / 65536 % 256=c:=by omega
  have h4:((((a+256*b+65536*c+16777216*d:Nat)):Int) - 4294967296) / 16777216 % 256=d:=by omega
  rw [h1,h2,h3,h4]
theorem num_bytes {a b c d:UInt8} {r:List UInt8}:b8 (fourL (num32 (a::b::c::d::r)))=[a,b,c,d]/\-2147483648<=num32 (a::b::c::d::r)/\num32 (a::b::c::d::r)<=2147483647:=by
 have ha:=UInt8.toNat_lt a
 have hb:=UInt8.toNat_lt b
 have hc:=UInt8.toNat_lt c
 have hd:=UInt8.toNat_lt d
 have e:num32 (a::b::c::d::r)=sgn32 (a.toNat+256*b.toNat+65536*c.toNat+16777216*d.toNat):=rfl
 rw [e,four_back _ _ _ _ ha hb hc hd]
 refine ⟨by simp only [b8_cons,b8_nil,of_nat],?_⟩
 unfold sgn32
 split<;>omega
theorem jump_bytes (c d:UInt8):UInt8.ofNat (sgn16 (c.toNat+256*d.toNat) % 256).toNat=c/\UInt8.ofNat (sgn16 (c.toNat+256*d.toNat) / 256 % 256).toNat=d/\-32768<=sgn16 (c.toNat+256*d.toNat)/\sgn16 (c.toNat+256*d.toNat)<=32767:=by
 have hc:=UInt8.toNat_lt c
 have hd:=UInt8.toNat_lt d
 unfold sgn16
 split
 ·exact ⟨of_byte (by omega),of_byte (by omega),by omega,by omega⟩
 ·exact ⟨of_byte (by omega),of_byte (by omega),by omega,by omega⟩
theorem byCode_ok {c k:Nat} (h:byCodeM c=some k):k<88/\(rowK k).code=c:=by
 unfold byCodeM at h;rw [List.findIdx?_eq_some_iff_getElem] at h;obtain ⟨h1,h2,_⟩:=h
 refine ⟨by rw [tab_len] at h1;exact h1,?_⟩
 rw [row_get h1] at h2
 simpa using h2
structure PI.Raw (x:PI):Prop where
 k:x.k<88
 j:-32768<=x.jump/\x.jump<=32767
 n:-2147483648<=x.num/\x.num<=2147483647
 h:-2147483648<=x.high/\x.high<=2147483647
 needs:x.o.needs (x.ins [])=true
 one:x.o.slots=1->x.high=0
theorem eight:∀ {l:List UInt8},¬ l.length<8->∃ a0 a1 a2 a3 a4 a5 a6 a7 t,l=a0::a1::a2::a3::a4::a5::a6::a7::t
 | a0::a1::a2::a3::a4::a5::a6::a7::t,_=>⟨a0,a1,a2,a3,a4,a5,a6,a7,t,rfl⟩
 | [],h=>absurd (by decide) h
 | [_],h=>absurd (by simp) h
 | [_,_],h=>absurd (by simp) h
 | [_,_,_],h=>absurd (by simp) h
 | [_,_,_,_],h=>absurd (by simp) h
 | [_,_,_,_,_],h=>absurd (by simp) h
 | [_,_,_,_,_,_],h=>absurd (by simp) h
 | [_,_,_,_,_,_,_],h=>absurd (by simp) h
theorem from_okB {l:List UInt8} {x:PI} (h:fromP l=some x):x.Raw/\x.name=[]/\∃ t,l=pslotU x++t/\(pslotU x).length=x.o.slots*8:=by
 unfold fromP at h
 split at h
 ·cases h
 rename_i h8
 cases hb:byCodeM (at' l 0) with
 | none=>rw [hb] at h;cases h
 | some k =>
  rw [hb] at h
  simp only at h
  obtain ⟨hk,hcode⟩:=byCode_ok hb
  have hrow:(tableS[k]?.getD noOp)=rowK k:=rfl
  rw [hrow] at h
  split at h
  ·cases h
  rename_i hlen
  split at h
  ·cases h
  rename_i hz
  by_cases hneeds:(rowK k).needs (PI.ins [] ⟨k,at' l 1 % 16,at' l 1 / 16,sgn16 (at' l 2+256*at' l 3),num32 (l.drop 4),if 1<(rowK k).slots then num32 (l.drop 12) else 0,[]⟩)=true
  ·rw [if_pos hneeds] at h
   injection h with h
   have hx:x.o=rowK k:=by rw [<- h];rfl
   have hxn:x.o.needs (x.ins [])=true:=by rw [hx,<- h];exact hneeds
   clear hneeds hrow hb;obtain ⟨a0,a1,a2,a3,a4,a5,a6,a7,t,rfl⟩:=eight h8
   have n1:=num_bytes (a:=a4) (b:=a5) (c:=a6) (d:=a7) (r:=t)
   have j1:=jump_bytes a2 a3
   have hd1:UInt8.ofNat (((a1.toNat % 16:Nat):Int)+16*((a1.toNat / 16:Nat):Int)).toNat=a1:=of_byte (by omega)
   have hc1:UInt8.ofNat (((rowK k).code:Nat):Int).toNat=a0:=of_byte (by rw [hcode];rfl)
   have xk:x.k=k:=by rw [<- h]
   have xd:x.d=a1.toNat % 16:=by rw [<- h];rfl
   have xs:x.s=a1.toNat / 16:=by rw [<- h];rfl
   have xj:x.jump=sgn16 (a2.toNat+256*a3.toNat):=by rw [<- h];rfl
   have xn:x.num=num32 (a4::a5::a6::a7::t):=by rw [<- h];rfl
   have xm:x.name=[]:=by rw [<- h]
   have xh:x.high=if 1<(rowK k).slots then num32 (t.drop 4) else 0:=by rw [<- h];rfl
   have hz':¬ (1<(rowK k).slots/\t.take 4≠[0,0,0,0]):=hz
   have hlen':¬ t.length+8<(rowK k).slots*8:=hlen
   clear hz hlen h hcode
   rcases row_slots k hk with hs | hs
   ·have hlt:¬ 1<(rowK k).slots:=by omega
    rw [if_neg hlt] at xh
    refine ⟨⟨by rw [xk];exact hk,by rw [xj];exact j1.2.2,by rw [xn];exact n1.2,by rw [xh];decide,hxn,fun _=>xh⟩,xm,t,?_,?_⟩
    ·unfold pslotU slotU;rw [hx,xd,xs,xj,xn,hs,if_pos rfl,n1.1]
     simp only [b8_cons,b8_nil,hc1,hd1,j1.1,j1.2.1]
     rfl
    ·unfold pslotU slotU;rw [hx,xn,hs,if_pos rfl,n1.1]
     rfl
   ·have hlt:1<(rowK k).slots:=by omega
    rw [if_pos hlt] at xh
    obtain ⟨b0,b1,b2,b3,b4,b5,b6,b7,t,rfl⟩:=eight (l:=t) (by omega)
    have n2:=num_bytes (a:=b4) (b:=b5) (c:=b6) (d:=b7) (r:=t)
    have xh':x.high=num32 (b4::b5::b6::b7::t):=xh
    have hzero:[b0,b1,b2,b3]=[0,0,0,0]:=by
     by_cases e:[b0,b1,b2,b3]=[0,0,0,0]
     ·exact e
     ·exact absurd ⟨hlt,e⟩ hz'
    have hs1:¬ (rowK k).slots=1:=by omega
    refine ⟨⟨by rw [xk];exact hk,by rw [xj];exact j1.2.2,by rw [xn];exact n1.2,by rw [xh'];exact n2.2,hxn,fun e=>by rw [hx] at e;omega⟩,xm,t,?_,?_⟩
    ·unfold pslotU slotU;rw [hx,xd,xs,xj,xn,xh',if_neg hs1,n1.1,n2.1,<- hzero]
     simp only [b8_cons,b8_nil,hc1,hd1,j1.1,j1.2.1]
     rfl
    ·unfold pslotU slotU;rw [hx,xn,xh',if_neg hs1,n1.1,n2.1,hs]
     rfl
  ·rw [if_neg hneeds] at h;cases h
theorem slots_cons (x:PI) (l:List PI):slotsP (x::l)=x.o.slots+slotsP l:=by unfold slotsP;simp
theorem Raw.slots {x:PI} (h:x.Raw):1<=x.o.slots:=by have:=row_slots x.k h.k;rw [PI.o_row];omega
theorem codeL_ok (sl:List UInt8) (n:Nat) (hn:sl.length=n*8):∀ (f a:Nat) (acc:List PI) (st:List Bool) (l:List PI) (st':List Bool),a<=n->codeL sl n f a acc st=some (l,st') ->
  ∃ m,l=acc++m/\(∀ x∈m,x.Raw/\x.name=[])/\sl.drop (a*8)=m.flatMap pslotU/\a+slotsP m=n/\∀ t,st'[t]?.getD false=true->st[t]?.getD false=true\/t∈(withS a m).map (·.2)
 | 0,_,_,_,_,_,_,h=>by rw [codeL] at h;cases h
 | f+1,a,acc,st,l,st',ha,h=>by
  rw [codeL] at h
  by_cases hlt:a<n
  ·rw [if_pos hlt] at h
   cases hf:fromP (sl.drop (a*8)) with
   | none=>rw [hf] at h;cases h
   | some x =>
    rw [hf] at h;obtain ⟨hR,hnm,t,e1,e2⟩:=from_okB hf
    have hlen:(sl.drop (a*8)).length=(n - a)*8:=by rw [List.length_drop,hn];omega
    have hle:x.o.slots*8<=(n - a)*8:=by rw [<- hlen,e1,List.length_append,e2];omega
    have hdrop:sl.drop ((a+x.o.slots)*8)=t:=by
     rw [Nat.add_mul,<- List.drop_drop,e1,<- e2,List.drop_left]
    obtain ⟨m,g1,g2,g3,g4,g5⟩:=codeL_ok sl n hn f (a+x.o.slots) (acc++[x]) (st.set a true) l st' (by omega) h
    refine ⟨x::m,by rw [g1];simp,fun y hy=>?_,?_,by rw [slots_cons];omega,fun u hu=>?_⟩
    ·rcases List.mem_cons.1 hy with rfl | hy
     ·exact ⟨hR,hnm⟩
     ·exact g2 y hy
    ·rw [List.flatMap_cons,<- g3,hdrop];exact e1
    ·rw [withS,List.map_cons]
     rcases g5 u hu with g | g
     ·by_cases e:a=u
      ·right;subst e;simp
      ·left
       rwa [List.getElem?_set_ne e] at g
     ·right;simp only [List.mem_cons];exact .inr g
  ·rw [if_neg hlt] at h
   injection h with h
   injection h with h1 h2
   subst h1 h2
   have hz:a=n:=by omega
   refine ⟨[],by simp,(fun x hx=>by cases hx),?_,by rw [hz];rfl,fun t ht=>.inl ht⟩
   rw [hz,<- hn,List.drop_length];rfl
theorem lead_ok (st:List Bool):∀ (l:List PI) (s:Nat),leadP st s l=true->∀ p∈withS s l,p.1.o.jumps=true->0<=p.1.target p.2/\st[(p.1.target p.2).toNat]?.getD false=true
 | [],_,_,p,hp,_=>by cases hp
 | x::l,s,h,p,hp,hj=>by
  rw [leadP,Bool.and_eq_true] at h;rw [withS] at hp
  rcases List.mem_cons.1 hp with rfl | hp
  ·have:=h.1
   rw [if_pos hj,Bool.and_eq_true,decide_eq_true_eq] at this;exact this
  ·exact lead_ok st l _ h.2 p hp hj
structure CodeRaw (l:List PI) (n:Nat):Prop where
 raw:∀ x∈l,x.Raw
 sl:slotsP l=n
 last:lastP l=true
 lead:∀ p∈withS 0 l,p.1.o.jumps=true->∃ t:Nat,p.1.target p.2=t/\t∈(withS 0 l).map (·.2)
theorem code_ok {sl:List UInt8} {r:PR} {n:Nat} (hn:sl.length=n*8) (h:(codeP sl r).2.bad=false):r.bad=false/\(codeP sl r).2.rest=r.rest/\sl=(codeP sl r).1.flatMap pslotU/\CodeRaw (codeP sl r).1 n/\∀ x∈(codeP sl r).1,x.name=[]:=by
 unfold codeP at h ⊢
 have hd:sl.length / 8=n:=by rw [hn];omega
 rw [hd] at h ⊢
 cases hc:codeL sl n (n+1) 0 [] (List.replicate n false) with
 | none=>rw [hc] at h;cases h
 | some p =>
  obtain ⟨l,st⟩:=p;rw [hc] at h
  simp only at h ⊢
  obtain ⟨h1,c1⟩:=want_ok h;obtain ⟨h2,c2⟩:=want_ok h1
  obtain ⟨m,g1,g2,g3,g4,g5⟩:=codeL_ok sl n hn _ _ _ _ _ _ (Nat.zero_le _) hc
  rw [List.nil_append] at g1;subst g1;rw [Nat.zero_mul,List.drop_zero] at g3
  refine ⟨h2,rfl,g3,⟨fun x hx=>(g2 x hx).1,by omega,c2,fun p hp hj=>?_⟩,fun x hx=>(g2 x hx).2⟩
  obtain ⟨k1,k2⟩:=lead_ok st l 0 c1 p hp hj
  refine ⟨(p.1.target p.2).toNat,by omega,?_⟩
  rcases g5 _ k2 with g | g
  ·exfalso
   rw [List.getElem?_replicate] at g
   split at g<;>cases g
  ·exact g
theorem codes_okB:∀ (hs:List PHead) (r:PR) (acc:List PFn),(codesP hs r acc).2.bad=false->r.bad=false/\∃ gs,(codesP hs r acc).1=acc++gs/\gs.map (·.name)=hs.map (·.name)/\gs.map (fun f=>slotsP f.code)=hs.map (·.slots)/\r.rest=gs.flatMap pcodeU++(codesP hs r acc).2.rest/\(∀ g∈gs,CodeRaw g.code (slotsP g.code)/\∀ x∈g.code,x.name=[])
 | [],r,acc,h=>⟨h,[],by simp [codesP],rfl,rfl,by simp [codesP],(fun g hg=>by cases hg)⟩
 | hd::hs,r,acc,h=>by
  rw [codesP] at h ⊢;obtain ⟨h1,gs,e1,e2,e3,e4,e5⟩:=codes_okB hs _ _ h
  have hbad:(takeP (hd.slots*8) r).2.bad=false:=by
   cases hb:(takeP (hd.slots*8) r).2.bad with
   | false=>rfl
   | true =>
    exfalso
    have:(codeP (takeP (hd.slots*8) r).1 (takeP (hd.slots*8) r).2).2.bad=true:=by
     unfold codeP
     split
     ·rfl
     ·unfold wantP;simp [hb]
    rw [h1] at this;cases this
  obtain ⟨h2,e6,e7⟩:=take_ok hbad;obtain ⟨_,k2,k3,k4,k5⟩:=code_ok e7 h1
  refine ⟨h2,⟨hd.name,(codeP (takeP (hd.slots*8) r).1 (takeP (hd.slots*8) r).2).1⟩::gs,by rw [e1];simp,by simp [e2],by simp [e3,k4.sl],?_,fun g hg=>?_⟩
  ·rw [List.flatMap_cons,List.append_assoc,<- e4,k2,e6]
   conv=>lhs;rw [k3]
   rfl
  ·rcases List.mem_cons.1 hg with rfl | hg
   ·exact ⟨by rw [k4.sl];exact k4,k5⟩
   ·exact e5 g hg
def PI.bare (x:PI):PI:={ x with name:=[] }
theorem bare_o (x:PI):x.bare.o=x.o:=rfl
structure PI.Ref (ms:List PMap) (x:PI):Prop where
 nm:x.refers≠0->nameB x.name=true/\x.num=0
 no:x.refers=0->x.name=[]
 mp:x.refers=2->x.name∈ms.map (·.name)
theorem hasMap_mem {ms:List PMap} {n:List UInt8} (h:hasMapP ms n=true):n∈ms.map (·.name):=by
 unfold hasMapP at h;obtain ⟨m,hm,e⟩:=List.any_eq_true.1 h
 exact List.mem_map.2 ⟨m,hm,by simpa using e⟩
theorem ref_ok {n slot:Nat} {r:PR} (hn:n<256) (hs:slot<65536) (h:(refP n slot r).2.bad=false):r.bad=false/\r.rest=b8 [(n:Int)]++b8 (twoL slot)++namedU (T (refP n slot r).1)++(refP n slot r).2.rest/\nameB (refP n slot r).1=true:=by
 unfold refP at h ⊢
 simp only at h ⊢
 obtain ⟨h1,e1,c1⟩:=name_ok h;obtain ⟨h2,c2⟩:=want_ok h1;obtain ⟨h3,e3,_⟩:=two_ok h2;obtain ⟨h4,c4⟩:=want_ok h3;obtain ⟨h5,e5,_⟩:=one_ok h4
 simp only [decide_eq_true_eq] at c2 c4
 refine ⟨h5,?_,c1⟩
 rw [want_rest] at e1 e3
 have q1:b8 [((oneP r).1:Int)]=b8 [(n:Int)]:=by rw [c4]
 have q2:b8 (twoL ((twoP (wantP (decide ((oneP r).1=n)) (oneP r).2)).1:Nat))=b8 (twoL (slot:Nat)):=by rw [c2]
 rw [e5,q1,e3,q2,e1]
 simp only [List.append_assoc]
theorem refsI_ok (ms:List PMap) (n:Nat) (hn:n<256):∀ (l:List PI) (slot:Nat) (left:Int) (r:PR) (acc:List PI),(∀ x∈l,x.name=[])->slot+slotsP l<65536->(refsI ms n slot l left r acc).2.2.bad=false ->
  r.bad=false/\∃ m,(refsI ms n slot l left r acc).1=acc++m/\m.map PI.bare=l/\r.rest=prefC n slot m++(refsI ms n slot l left r acc).2.2.rest/\(refsI ms n slot l left r acc).2.1=left - pcntC m/\∀ x∈m,x.Ref ms
 | [],slot,left,r,acc,_,_,h=>⟨h,[],by simp [refsI],rfl,by simp [refsI,prefC],by simp [refsI,pcntC],(fun x hx=>by cases hx)⟩
 | x::l,slot,left,r,acc,hnm,hs,h=>by
  rw [slots_cons] at hs;rw [refsI] at h ⊢
  by_cases hr:x.refers≠0
  ·rw [if_pos hr] at h ⊢
   obtain ⟨h1,m,e1,e2,e3,e4,e5⟩:=refsI_ok ms n hn l (slot+x.o.slots) _ _ _ (fun y hy=>hnm y (by simp [hy])) (by omega) h
   obtain ⟨h2,c2⟩:=want_ok h1;obtain ⟨h3,c3⟩:=want_ok h2
   obtain ⟨h4,e6,c4⟩:=ref_ok hn (by omega) h3
   have hx0:=hnm x (by simp)
   have hrf:({ x with name:=(refP n slot r).1 }:PI).refers=x.refers:=rfl
   refine ⟨h4,{ x with name:=(refP n slot r).1 }::m,by rw [e1];simp,?_,?_,?_,fun y hy=>?_⟩
   ·rw [List.map_cons,e2]
    congr 1
    show ({ x with name:=[] }:PI)=x
    rw [<- hx0]
   ·rw [want_rest,want_rest] at e3;rw [prefC,e6,e3];unfold prefU;rw [hrf,if_neg hr]
    simp only [List.append_assoc]
    rfl
   ·rw [e4,pcntC,hrf,if_neg hr]
    simp only [Int.natCast_add]
    omega
   ·rcases List.mem_cons.1 hy with rfl | hy
    ·refine ⟨fun _=>⟨c4,by simpa using c3⟩,fun e=>absurd e hr,fun e=>?_⟩
     rw [Bool.or_eq_true] at c2
     rcases c2 with c2 | c2
     ·have c2':¬ x.refers=2:=by simpa using c2
      exact absurd (show x.refers=2 from e) c2'
     ·exact hasMap_mem c2
    ·exact e5 y hy
  ·rw [if_neg hr] at h ⊢
   obtain ⟨h1,m,e1,e2,e3,e4,e5⟩:=refsI_ok ms n hn l (slot+x.o.slots) _ _ _ (fun y hy=>hnm y (by simp [hy])) (by omega) h
   have hr0:x.refers=0:=by simpa using hr
   have hx0:=hnm x (by simp)
   refine ⟨h1,x::m,by rw [e1];simp,?_,?_,?_,fun y hy=>?_⟩
   ·rw [List.map_cons,e2]
    congr 1
    show ({ x with name:=[] }:PI)=x
    rw [<- hx0]
   ·rw [prefC,e3];unfold prefU
    rw [if_pos hr0];rfl
   ·rw [e4,pcntC,if_pos hr0];simp
   ·rcases List.mem_cons.1 hy with rfl | hy
    ·exact ⟨fun e=>absurd hr0 e,fun _=>hx0,fun e=>by rw [hr0] at e;cases e⟩
    ·exact e5 y hy
theorem bare_slots (m l:List PI) (h:m.map PI.bare=l):slotsP m=slotsP l:=by
 subst h;unfold slotsP;rw [List.map_map]
 rfl
theorem bare_code (m l:List PI) (h:m.map PI.bare=l):m.flatMap pslotU=l.flatMap pslotU:=by
 subst h;rw [List.flatMap_map]
 rfl
theorem bare_with:∀ (m:List PI) (s:Nat),withS s (m.map PI.bare)=(withS s m).map (fun p=>(p.1.bare,p.2))
 | [],_=>rfl
 | x::m,s=>by
  rw [List.map_cons,withS,withS,List.map_cons,bare_with m,bare_o]
theorem bare_raw {x:PI} (h:x.bare.Raw):x.Raw:=⟨h.k,h.j,h.n,h.h,by
 have:=h.needs
 rw [bare_o] at this
 rw [needs_same x.o (x.ins []) (x.bare.ins []) rfl rfl rfl rfl rfl];exact this,h.one⟩
theorem last_bare (m:List PI):lastP (m.map PI.bare)=lastP m:=by
 unfold lastP;rw [List.getLast?_map]
 cases m.getLast?<;>rfl
theorem CodeRaw.named {m l:List PI} {n:Nat} (h:m.map PI.bare=l) (hc:CodeRaw l n):CodeRaw m n:=by
 subst h
 refine ⟨fun x hx=>bare_raw (hc.raw _ (List.mem_map.2 ⟨x,hx,rfl⟩)),by rw [<- hc.sl];exact bare_slots m _ rfl,by rw [<- last_bare];exact hc.last,fun p hp hj=>?_⟩
 have hp':(p.1.bare,p.2)∈withS 0 (m.map PI.bare):=by rw [bare_with];exact List.mem_map.2 ⟨p,hp,rfl⟩
 obtain ⟨t,ht,hm⟩:=hc.lead _ hp' hj
 refine ⟨t,ht,?_⟩
 rw [bare_with,List.map_map] at hm;exact hm
theorem refsF_ok (ms:List PMap):∀ (l done:List PFn) (left:Int) (r:PR),(∀ f∈l,CodeRaw f.code (slotsP f.code)/\∀ x∈f.code,x.name=[])->done.length+l.length<=16->(∀ f∈l,slotsP f.code<60000)->(refsF ms done l left r).2.2.bad=false ->
  r.bad=false/\∃ m,(refsF ms done l left r).1=done++m/\m.map (·.name)=l.map (·.name)/\m.map (fun f=>slotsP f.code)=l.map (fun f=>slotsP f.code)/\m.flatMap pcodeU=l.flatMap pcodeU/\r.rest=prefF done.length m++(refsF ms done l left r).2.2.rest/\(refsF ms done l left r).2.1=left - pcntR m/\∀ f∈m,CodeRaw f.code (slotsP f.code)/\∀ x∈f.code,x.Ref ms
 | [],done,left,r,_,_,_,h=>⟨h,[],by simp [refsF],rfl,rfl,rfl,by simp [refsF,prefF],by simp [refsF,pcntR],(fun f hf=>by cases hf)⟩
 | f::l,done,left,r,hf,hl,hs,h=>by
  rw [List.length_cons] at hl;rw [refsF] at h ⊢
  obtain ⟨hc,hn0⟩:=hf f (by simp)
  obtain ⟨h1,m,e1,e2,e3,e4,e5,e6,e7⟩:=refsF_ok ms l _ _ _ (fun g hg=>hf g (by simp [hg])) (by simp only [List.length_append,List.length_singleton];omega) (fun g hg=>hs g (by simp [hg])) h
  have hsf:=hs f (by simp)
  obtain ⟨h2,c,k1,k2,k3,k4,k5⟩:=refsI_ok ms done.length (by omega) f.code 0 left r [] hn0 (by omega) h1
  rw [List.nil_append] at k1
  have hcn:CodeRaw c (slotsP f.code):=CodeRaw.named k2 hc
  refine ⟨h2,⟨f.name,c⟩::m,by rw [e1,k1];simp,by simp [e2],?_,?_,?_,?_,fun g hg=>?_⟩
  ·rw [List.map_cons,List.map_cons,e3]
   congr 1
   exact bare_slots c _ k2
  ·rw [List.flatMap_cons,List.flatMap_cons,e4]
   congr 1
   exact bare_code c _ k2
  ·rw [prefF,k3,e5]
   simp only [List.length_append,List.length_singleton,List.append_assoc]
  ·rw [e6,k4,pcntR]
   simp only [Int.natCast_add]
   omega
  ·rcases List.mem_cons.1 hg with rfl | hg
   ·refine ⟨?_,k5⟩
    show CodeRaw c (slotsP c)
    rw [bare_slots c _ k2];exact hcn
   ·exact e7 g hg
theorem uniq_riseAB {α:Type} {R:α->α->Prop} (ha:∀ x y,R x y->¬ R y x):∀ {l k:List α},l.Pairwise R->k.Pairwise R->(∀ x,x∈l ↔ x∈k)->l=k
 | [],[],_,_,_=>rfl
 | [],b::k,_,_,h=>absurd ((h b).2 (by simp)) (by simp)
 | a::l,[],_,_,h=>absurd ((h a).1 (by simp)) (by simp)
 | a::l,b::k,h1,h2,h=>by
  rw [List.pairwise_cons] at h1 h2
  have e:a=b:=by
   by_cases e:a=b
   ·exact e
   ·exfalso
    have p1:a∈k:=by
     rcases List.mem_cons.1 ((h a).1 (by simp)) with c | c
     ·exact absurd c e
     ·exact c
    have p2:b∈l:=by
     rcases List.mem_cons.1 ((h b).2 (by simp)) with c | c
     ·exact absurd c.symm e
     ·exact c
    exact ha _ _ (h1.1 b p2) (h2.1 a p1)
  subst e
  congr 1
  refine uniq_riseAB ha h1.2 h2.2 (fun x=>⟨fun hx=>?_,fun hx=>?_⟩)
  ·rcases List.mem_cons.1 ((h x).1 (List.mem_cons_of_mem _ hx)) with c | c
   ·subst c;exact absurd (h1.1 _ hx) (fun r=>ha _ _ r r)
   ·exact c
  ·rcases List.mem_cons.1 ((h x).2 (List.mem_cons_of_mem _ hx)) with c | c
   ·subst c;exact absurd (h2.1 _ hx) (fun r=>ha _ _ r r)
   ·exact c
theorem same_sortedB {α:Type} {nm:α->ByteArray} {L L1 L2:List α} (p1:L1.Perm L) (p2:L2.Perm L) (nd:(L.map nm).Nodup) (s1:L1.Pairwise (fun x y=>ltB (nm y) (nm x)=false)) (s2:L2.Pairwise (fun x y=>ltB (nm y) (nm x)=false)):L1=L2:=by
 have strict:∀ {K:List α},K.Perm L->K.Pairwise (fun x y=>ltB (nm y) (nm x)=false)->K.Pairwise (fun x y=>ltB (nm x) (nm y)=true):=fun {K} p s=>by
  have h2:(K.map nm).Nodup:=((p.map nm).nodup_iff).2 nd
  have h3:K.Pairwise (fun x y=>nm x≠nm y):=List.pairwise_map.1 h2
  refine (s.and h3).imp (fun {x y} h=>?_)
  cases c:ltB (nm x) (nm y) with
  | true=>rfl
  | false=>exact absurd (ltB_total c h.1) h.2
 refine uniq_riseAB (R:=fun x y=>ltB (nm x) (nm y)=true) (fun x y h c=>?_) (strict p1 s1) (strict p2 s2) (fun x=>by rw [p1.mem_iff,p2.mem_iff])
 rw [ltB_asymm h] at c;cases c
theorem rise_pair:∀ (l:List (List UInt8)) (a:List UInt8),riseL a l->(∀ b∈l,ltL a b=true)/\l.Pairwise (fun x y=>ltL x y=true)
 | [],_,_=>⟨(fun b h=>by cases h),List.Pairwise.nil⟩
 | b::l,a,h=>by
  obtain ⟨h1,h2⟩:=rise_pair l b h.2
  refine ⟨fun c hc=>?_,List.pairwise_cons.2 ⟨h1,h2⟩⟩
  rcases List.mem_cons.1 hc with rfl | hc
  ·exact h.1
  ·exact ltB_trans h.1 (h1 c hc)
theorem set_keep {st:List Bool} {i t:Nat} (h:st[t]?.getD false=true):(st.set i true)[t]?.getD false=true:=by
 by_cases e:i=t
 ·subst e
  have hl:i<st.length:=by
   by_cases hl:i<st.length
   ·exact hl
   ·rw [List.getElem?_eq_none (by omega)] at h;cases h
  rw [List.getElem?_set_self hl];rfl
 ·rw [List.getElem?_set_ne e];exact h
theorem led_keep:∀ (l:List PI) (s:Nat) (st:List Bool) (t:Nat),st[t]?.getD false=true->(ledP s l st)[t]?.getD false=true
 | [],_,_,_,h=>h
 | x::l,s,st,t,h=>by
  rw [ledP]
  refine led_keep l _ _ t ?_
  split
  ·exact set_keep h
  ·exact h
theorem led_mark:∀ (l:List PI) (s:Nat) (st:List Bool),∀ p∈withS s l,p.1.o.jumps=true->(p.1.target p.2).toNat<st.length->(ledP s l st)[(p.1.target p.2).toNat]?.getD false=true
 | [],_,_,p,hp,_,_=>by cases hp
 | x::l,s,st,p,hp,hj,hl=>by
  rw [withS] at hp;rw [ledP]
  rcases List.mem_cons.1 hp with rfl | hp
  ·refine led_keep l _ _ _ ?_
   simp only at hj hl ⊢
   rw [if_pos hj,List.getElem?_set_self hl];rfl
  ·refine led_mark l _ _ p hp hj ?_
   split
   ·rw [List.length_set];exact hl
   ·exact hl
theorem raw_slots1 {l:List PI} {n:Nat} (h:CodeRaw l n):∀ x∈l,1<=x.o.slots:=fun x hx=>Raw.slots (h.raw x hx)
theorem told_of {f:PFn} {ms:List PMap} (hn:nameB f.name=true) (hc:CodeRaw f.code (slotsP f.code)) (hr:∀ x∈f.code,x.Ref ms) (hs:slotsP f.code<=200):f.Told:=by
 have hlead:∀ p∈withS 0 f.code,p.1.o.jumps=true->∃ t:Nat,p.1.target p.2=t/\t∈(withS 0 f.code).map (·.2)/\labAt (labelsP f) t≠[]:=fun p hp hj=>by
  obtain ⟨t,ht,hm⟩:=hc.lead p hp hj
  refine ⟨t,ht,hm,?_⟩
  obtain ⟨q,hq,e⟩:=List.mem_map.1 hm
  have hlt:=withS_lt f.code 0 (raw_slots1 hc) q hq
  have hq1:q.1∈f.code:=by
   have:q.1∈(withS 0 f.code).map (·.1):=List.mem_map.2 ⟨q,hq,rfl⟩
   rwa [withS_code] at this
  have h1:=raw_slots1 hc q.1 hq1
  have e':q.2=t:=e
  have hmk:=led_mark f.code 0 (List.replicate (slotsP f.code) false) p hp hj (by rw [List.length_replicate,ht];omega)
  rw [ht,Int.toNat_natCast] at hmk;unfold labelsP;rw [labsP_at,if_pos hmk]
  simp [labN]
 have hlabs:LabsOk (labelsP f):=by
  unfold labelsP
  refine labs_ok _ ?_
  rw [led_lenB,List.length_replicate];omega
 refine ⟨hn,fun p hp=>?_,hlead,hc.last,hs⟩
 have hp1:p.1∈f.code:=by
  have:p.1∈(withS 0 f.code).map (·.1):=List.mem_map.2 ⟨p,hp,rfl⟩
  rwa [withS_code] at this
 have hR:=hc.raw p.1 hp1
 have hF:=hr p.1 hp1
 refine ⟨hR.k,hR.j,hR.n,hR.h,hR.needs,hR.one,hF.nm,hF.no,fun hj=>?_,fun hj=>?_⟩
 ·obtain ⟨t,ht,_,hne⟩:=hlead p hp hj
  have e:p.1.lab (labelsP f) p.2=labAt (labelsP f) t:=by
   unfold PI.lab
   rw [if_pos hj,ht];rfl
  rw [e]
  rcases hlabs.form t with e0 | ⟨n,hn9,e1⟩
  ·exact absurd e0 hne
  ·rw [e1];exact lab_name hn9
 ·unfold PI.lab
  rw [hj];rfl
theorem heads_eq:∀ (m:List PFn) (hs:List PHead),m.map (·.name)=hs.map (·.name)->m.map (fun f=>slotsP f.code)=hs.map (·.slots)->m.flatMap pheadU=hs.flatMap hheadU
 | [],[],_,_=>rfl
 | [],_::_,h,_=>by cases h
 | _::_,[],h,_=>by cases h
 | f::m,x::hs,h1,h2=>by
  rw [List.map_cons,List.map_cons] at h1 h2
  injection h1 with a1 b1
  injection h2 with a2 b2
  rw [List.flatMap_cons,List.flatMap_cons,heads_eq m hs b1 b2]
  congr 1
  unfold pheadU hheadU;rw [a1,a2]
structure Right (s:List UInt8) (ms:List PMap) (fs:List PFn):Prop where
 enc:objU ms fs=s
 mt:∀ m∈ms,m.Told
 ft:∀ f∈fs,f.Told
 m8:ms.length<=8
 f16:fs.length<=16
 s200:(fs.map (fun f=>slotsP f.code)).sum<=200
 mr:(ms.map (·.name)).Pairwise (fun x y=>ltL x y=true)
 fr:(fs.map (·.name)).Pairwise (fun x y=>ltL x y=true)
 rm:∀ f∈fs,∀ p∈withS 0 f.code,p.1.refers=2->p.1.name∈ms.map (·.name)
theorem sum_le {l:List Nat}:∀ x∈l,x<=l.sum:=by
 induction l with
 | nil=>intro x h;cases h
 | cons a l ih =>
  intro x h;rw [List.sum_cons]
  rcases List.mem_cons.1 h with rfl | h
  ·omega
  ·have:=ih x h;omega
theorem decode_right {s:List UInt8} (h:(decodeP s).2.2.bad=false):Right s (decodeP s).1 (decodeP s).2.1:=by
 unfold decodeP at h ⊢
 simp only at h ⊢
 generalize ha:takeP 4 ⟨s,false⟩=a at h ⊢
 generalize hb:oneP (wantP (a.1==[83,80,79,76]) a.2)=b at h ⊢
 generalize hc:oneP (wantP (decide (b.1=1)) b.2)=c at h ⊢
 generalize hm:mapsP c.1 (wantP (decide (c.1<=8)) c.2) [] []=m at h ⊢
 generalize hf:funcsP m.2=f at h ⊢
 obtain ⟨h1,z1⟩:=want_ok h
 generalize hg:refsP m.1 f.1 f.2=g at h h1 z1 ⊢
 have hg1:=h1
 rw [<- hg] at hg1;unfold refsP at hg1
 simp only at hg1
 obtain ⟨h2,z2⟩:=want_ok hg1
 have hfb:f.2.bad=false:=by
  cases hb2:f.2.bad with
  | false=>rfl
  | true =>
   exfalso
   have key:∀ r:PR,r.bad=true->(oneP r).2.bad=true:=fun r hr=>by
    unfold oneP;split
    ·rfl
    ·exact hr
   have k2:(twoP f.2).2.bad=true:=key _ (key _ hb2)
   have key3:∀ (l:List PI) (ms:List PMap) (n slot:Nat) (left:Int) (r:PR) (acc:List PI),r.bad=true->(refsI ms n slot l left r acc).2.2.bad=true:=fun l=>by
    induction l with
    | nil=>intro ms n slot left r acc hr;exact hr
    | cons x l ih =>
     intro ms n slot left r acc hr;rw [refsI]
     split
     ·refine ih _ _ _ _ _ _ ?_
      have q1:(refP n slot r).2.bad=true:=by
       unfold refP nameP takeP
       simp only
       have w1:∀ (c:Bool) (r:PR),r.bad=true->(wantP c r).bad=true:=fun c r hr=>by unfold wantP;simp [hr]
       refine w1 _ _ ?_
       split
       ·rfl
       ·exact key _ (w1 _ _ (key _ (key _ (w1 _ _ (key _ hr)))))
      unfold wantP
      simp [q1]
     ·exact ih _ _ _ _ _ _ hr
   have key4:∀ (l done:List PFn) (ms:List PMap) (left:Int) (r:PR),r.bad=true->(refsF ms done l left r).2.2.bad=true:=fun l=>by
    induction l with
    | nil=>intro done ms left r hr;exact hr
    | cons x l ih =>
     intro done ms left r hr;rw [refsF]
     exact ih _ _ _ _ (key3 _ _ _ _ _ _ _ hr)
   have:=key4 f.1 [] m.1 ((twoP f.2).1:Int) _ k2
   rw [h2] at this;cases this
 have hfb':=hfb
 rw [<- hf] at hfb';unfold funcsP at hfb'
 simp only at hfb'
 have hf1:f=if (wantP (decide ((headsP (oneP m.2).1 (wantP (decide ((oneP m.2).1<=16)) (oneP m.2).2) [] 0 []).2.1<=200)) (headsP (oneP m.2).1 (wantP (decide ((oneP m.2).1<=16)) (oneP m.2).2) [] 0 []).2.2).bad then ([],wantP (decide ((headsP (oneP m.2).1 (wantP (decide ((oneP m.2).1<=16)) (oneP m.2).2) [] 0 []).2.1<=200)) (headsP (oneP m.2).1 (wantP (decide ((oneP m.2).1<=16)) (oneP m.2).2) [] 0 []).2.2) else codesP (headsP (oneP m.2).1 (wantP (decide ((oneP m.2).1<=16)) (oneP m.2).2) [] 0 []).1 (wantP (decide ((headsP (oneP m.2).1 (wantP (decide ((oneP m.2).1<=16)) (oneP m.2).2) [] 0 []).2.1<=200)) (headsP (oneP m.2).1 (wantP (decide ((oneP m.2).1<=16)) (oneP m.2).2) [] 0 []).2.2) []:=by rw [<- hf];rfl
 generalize hH:headsP (oneP m.2).1 (wantP (decide ((oneP m.2).1<=16)) (oneP m.2).2) [] 0 []=H at hf1 hfb'
 cases hq:(wantP (decide (H.2.1<=200)) H.2.2).bad with
 | true =>
  rw [hq] at hf1;rw [hf1] at hfb;rw [if_pos rfl] at hfb
  rw [hq] at hfb;cases hfb
 | false =>
  rw [hq,if_neg (by decide)] at hf1
  obtain ⟨q1,z3⟩:=want_ok hq
  have q1':=q1
  rw [<- hH] at q1';obtain ⟨q2,hs,e1,e2,e3,e4,e5,e6⟩:=heads_ok _ _ _ _ _ q1';rw [hH] at e1 e3 e6;rw [List.nil_append] at e1;obtain ⟨q3,z4⟩:=want_ok q2;obtain ⟨q4,e7,_⟩:=one_ok q3
  have q5:=q4
  rw [<- hm] at q5;obtain ⟨q6,ms,u1,u2,u3,u4,u5⟩:=maps_ok _ _ _ _ q5;rw [hm] at u1 u3;rw [List.nil_append] at u1;obtain ⟨q7,z5⟩:=want_ok q6;rw [<- hc] at q7;obtain ⟨q8,v1,_⟩:=one_ok q7;rw [hc] at v1;obtain ⟨q9,z6⟩:=want_ok q8;rw [<- hb] at q9;obtain ⟨q10,v2,_⟩:=one_ok q9;rw [hb] at v2;obtain ⟨q11,z7⟩:=want_ok q10;rw [<- ha] at q11;obtain ⟨_,v3,_⟩:=take_ok q11;rw [ha] at v3
  simp only [decide_eq_true_eq] at z3 z4 z5 z6
  rw [hf1] at hfb;obtain ⟨_,gs,w1,w2,w3,w4,w5⟩:=codes_okB _ _ _ hfb;rw [<- hf1] at w1 w4;rw [List.nil_append] at w1
  have hsl:∀ k∈gs,slotsP k.code<=200:=fun k hk=>by
   have:slotsP k.code∈gs.map (fun f=>slotsP f.code):=List.mem_map.2 ⟨k,hk,rfl⟩
   rw [w3,e1] at this
   have:=sum_le _ this
   omega
  have hgl:gs.length=(oneP m.2).1:=by
   have:=congrArg List.length w2
   rw [List.length_map,List.length_map,e1] at this
   omega
  rw [w1] at h2
  obtain ⟨h3,fs,x1,x2,x3,x4,x5,x6,x7⟩:=refsF_ok m.1 gs [] _ _ w5 (by simp only [List.length_nil];omega) (fun k hk=>by have:=hsl k hk;omega) h2
  rw [List.nil_append] at x1;obtain ⟨_,y1,_⟩:=two_ok h3
  have hg2:g.1=fs:=by rw [<- hg];unfold refsP;simp only;rw [w1,x1]
  have hgr:g.2.rest=(refsF m.1 [] gs ((twoP f.2).1:Int) (twoP f.2).2).2.2.rest:=by rw [<- hg];unfold refsP;simp only [want_rest];rw [w1]
  have hleft:((twoP f.2).1:Int)=pcntR fs:=by
   have:(refsF m.1 [] f.1 ((twoP f.2).1:Int) (twoP f.2).2).2.1=0:=by simpa using z2
   rw [w1,x6] at this
   omega
  have hrest:g.2.rest=[]:=by simpa using z1
  rw [hg2]
  have hm1:m.1=ms:=u1
  rw [hm1] at x7 ⊢
  have hfl:fs.length=(oneP m.2).1:=by
   have:=congrArg List.length x2
   rw [List.length_map,List.length_map] at this
   omega
  have hnames:fs.map (·.name)=hs.map (·.name):=by rw [x2,w2,e1]
  have hslots:fs.map (fun f=>slotsP f.code)=hs.map (·.slots):=by rw [x3,w3,e1]
  have hsum:(fs.map (fun f=>slotsP f.code)).sum<=200:=by rw [hslots];omega
  refine ⟨?_,u4,fun k hk=>?_,by omega,by omega,hsum,(rise_pair _ _ u5).2,by rw [hnames];exact (rise_pair _ _ e5).2,fun k hk p hp hr2=>?_⟩
  ·-- the bytes
   have hpl:a.1=[83,80,79,76]:=by simpa using z7
   have v3':s=a.1++a.2.rest:=v3
   rw [want_rest] at v1 v2 e3 u3 w4;unfold objU encU;rw [v3',hpl,v2,z6,v1,u3,e7,e3,w4,y1,x5,<- hgr,hrest,List.append_nil,hleft,x4,heads_eq fs hs hnames hslots,u2,hfl]
   simp only [b8_cons,b8_nil,List.append_assoc,List.cons_append,List.nil_append,List.length_nil]
  ·obtain ⟨k1,k2⟩:=x7 k hk
   have hkn:nameB k.name=true:=by
    have:k.name∈fs.map (·.name):=List.mem_map.2 ⟨k,hk,rfl⟩
    rw [hnames] at this;obtain ⟨y,hy,e⟩:=List.mem_map.1 this
    rw [<- e];exact e4 y hy
   refine told_of hkn k1 k2 ?_
   have:slotsP k.code∈fs.map (fun f=>slotsP f.code):=List.mem_map.2 ⟨k,hk,rfl⟩
   have:=sum_le _ this
   omega
  ·have hp1:p.1∈k.code:=by
    have:p.1∈(withS 0 k.code).map (·.1):=List.mem_map.2 ⟨p,hp,rfl⟩
    rwa [withS_code] at this
   exact ((x7 k hk).2 p.1 hp1).mp hr2
end Go.Proofs.YtnhcaifopaeohaaGreatDoor
